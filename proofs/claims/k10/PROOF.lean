import PyProof.Rows.All
import Wide.All
import OpenK.AllK
import Wide.FinOn
import Lean
import PyProof.EqAt
import PyProof.EqKinds
import PyProof.TupleCall
import PyProof.NeKinds
import PyProof.Rows.SortRuns
import PyProof.Rows.SortShell
import PySem.Challenge.RW_ringseat_k10_a_house
set_option Elab.async false
namespace Hd
open PySem PySem.W PyProof.Rows
noncomputable section
set_option maxRecDepth 100000
set_option maxHeartbeats 0
set_option linter.all false
def tp (i : Nat) : Stmt := PySem.Challenge.pw_ringseat_k10_a_house.main.body.getD i (.Pass ⟨0, 0, 0, 0⟩)
def inC (s : Stmt) (i : Nat) : Stmt := match s with
  | .ClassDef _ _ _ b _ _ _ _ _ _ _ => b.getD i (.Pass ⟨0, 0, 0, 0⟩)
  | _ => .Pass ⟨0, 0, 0, 0⟩
def dA (s : Stmt) : Arguments := match s with
  | .FunctionDef _ a _ _ _ _ _ _ _ _ => a
  | _ => ⟨[], [], none, [], [], none, []⟩
def dB (s : Stmt) : List Stmt := match s with
  | .FunctionDef _ _ b _ _ _ _ _ _ _ => b
  | _ => []
def dS (s : Stmt) : Scope := match s with
  | .FunctionDef _ _ _ _ _ _ c _ _ _ => c
  | _ => { kind := .function, names := [], isGenerator := false, isCoroutine := false }
abbrev en (P : Params) (s : String) (n : Tok) (v : Value) : DictEntry := { hash := PyData.keyHash P (Str.ofString s), key := Value.str (Str.ofString s) n, val := v }
abbrev fn (s : Stmt) (n q : Str) (dV kV doc pm : Value) (an : Option Addr) (cd ct : Value) : FuncData := fnOf n q (dA s) (dB s) (dS s) dV kV doc pm an cd ct
def K (P : Params) : Frag :=
  (nat_lit 2, ⟨Value.none, none, Data.dict #[], #[]⟩) ::
  (nat_lit 3, ⟨Value.type "dict", none, Data.dict #[en P "__name__" 165 (Value.str (Str.ofString "law_ringseat_k10_a_house") 531), en P "__doc__" 166 (Value.none), en P "__package__" 167 (Value.none), en P "__loader__" 168 (Value.builtin "__main__.__loader__#opaque"), en P "__spec__" 169 (Value.none), en P "__annotations__" 170 (Value.ref 6), en P "__builtins__" 171 (Value.ref 4), en P "__file__" 173 (Value.str (Str.ofString "/claim/cut.py") 172), en P "__cached__" 174 (Value.none), en P "RingError" 206 (Value.ref 24), en P "NoGuest" 222 (Value.ref 37), en P "NoSize" 238 (Value.ref 49), en P "Twice" 254 (Value.ref 61), en P "Away" 270 (Value.ref 73), en P "Full" 286 (Value.ref 85), en P "FACTOR" 290 (Value.int 40503 289), en P "SPREAD" 292 (Value.int 65536 291), en P "HOUSE_RINGS" 299 (Value.ref 88), en P "is_whole" 306 (Value.ref 95), en P "is_guest" 313 (Value.ref 102), en P "home" 321 (Value.ref 109), en P "carried" 330 (Value.ref 116), en P "ahead" 342 (Value.ref 123), en P "room" 350 (Value.ref 130), en P "check_guest" 359 (Value.ref 137), en P "passed" 370 (Value.ref 144), en P "place_of" 380 (Value.ref 151), en P "seat_in" 391 (Value.ref 158), en P "put" 403 (Value.ref 165), en P "seat_out" 415 (Value.ref 172), en P "check_list" 424 (Value.ref 179), en P "seated" 434 (Value.ref 186), en P "GREATEST_MOST" 438 (Value.int 192 437), en P "all_in" 444 (Value.ref 191), en P "fitted" 453 (Value.ref 198), en P "House" 530 (Value.ref 258), en P "_law_cell_at" 540 (Value.ref 269), en P "_law_whole" 547 (Value.ref 276), en P "_law_home" 555 (Value.ref 283), en P "_law_settled" 561 (Value.ref 288), en P "_law_size" 570 (Value.ref 295), en P "_law_odd" 579 (Value.ref 302), en P "_law_kinds" 587 (Value.ref 309), en P "_law_only" 593 (Value.ref 314), en P "_law_made" 601 (Value.ref 321), en P "_law_comes" 610 (Value.ref 328), en P "_law_goes" 619 (Value.ref 335), en P "_law_looked_for" 628 (Value.ref 342), en P "_law_sits" 638 (Value.ref 349), en P "_law_there" 649 (Value.ref 356), en P "_law_no_guest" 658 (Value.ref 363), en P "_law_most" 665 (Value.ref 370), en P "_law_all" 671 (Value.ref 375), en P "_law_house" 679 (Value.ref 382), en P "law" 685 (Value.ref 387)] 55, #[]⟩) ::
  (nat_lit 15, ⟨Value.type "tuple", none, Data.seq #[Value.type "ValueError"], #[]⟩) ::
  (nat_lit 22, ⟨Value.type "tuple", none, Data.seq #[], #[]⟩) ::
  (nat_lit 23, ⟨Value.type "dict", none, Data.dict #[en P "__module__" 196 (Value.str (Str.ofString "ringseat.errors") 187), en P "__firstlineno__" 200 (Value.int 2 199), en P "__static_attributes__" 201 (Value.ref 22), en P "__weakref__" 203 (Value.ref 25), en P "__doc__" 204 (Value.none)] 3, #[]⟩) ::
  (nat_lit 24, ⟨Value.type "type", none, Data.cls { name := Str.ofString "RingError", bases := [Value.type "ValueError"], mro := [Value.ref 24, Value.type "ValueError", Value.type "Exception", Value.type "BaseException", Value.type "object"], ns := 23, qualname := Str.ofString "RingError", subclasses := [Value.ref 37, Value.ref 49, Value.ref 61, Value.ref 73, Value.ref 85] }, #[some (Value.ref 15), none, some (Value.str (Str.ofString "RingError") 189), some (Value.str (Str.ofString "RingError") 197), some (Value.builtin "ValueError.__new__"), some (Value.bool true)]⟩) ::
  (nat_lit 25, ⟨Value.type "getset_descriptor", none, Data.fields #[Value.str (Str.ofString "__weakref__") 202, Value.ref 24, Value.builtin "ExceptionGroup.__weakref__", Value.none], #[]⟩) ::
  (nat_lit 28, ⟨Value.type "tuple", none, Data.seq #[Value.ref 24], #[]⟩) ::
  (nat_lit 35, ⟨Value.type "tuple", none, Data.seq #[], #[]⟩) ::
  (nat_lit 36, ⟨Value.type "dict", none, Data.dict #[en P "__module__" 214 (Value.str (Str.ofString "ringseat.errors") 187), en P "__firstlineno__" 218 (Value.int 4 217), en P "__static_attributes__" 219 (Value.ref 35), en P "__doc__" 220 (Value.none)] 2, #[]⟩) ::
  (nat_lit 37, ⟨Value.type "type", none, Data.cls { name := Str.ofString "NoGuest", bases := [Value.ref 24], mro := [Value.ref 37, Value.ref 24, Value.type "ValueError", Value.type "Exception", Value.type "BaseException", Value.type "object"], ns := 36, qualname := Str.ofString "NoGuest" }, #[some (Value.ref 28), none, some (Value.str (Str.ofString "NoGuest") 207), some (Value.str (Str.ofString "NoGuest") 215), some (Value.builtin "ValueError.__new__"), some (Value.bool true)]⟩) ::
  (nat_lit 40, ⟨Value.type "tuple", none, Data.seq #[Value.ref 24], #[]⟩) ::
  (nat_lit 47, ⟨Value.type "tuple", none, Data.seq #[], #[]⟩) ::
  (nat_lit 48, ⟨Value.type "dict", none, Data.dict #[en P "__module__" 230 (Value.str (Str.ofString "ringseat.errors") 187), en P "__firstlineno__" 234 (Value.int 6 233), en P "__static_attributes__" 235 (Value.ref 47), en P "__doc__" 236 (Value.none)] 2, #[]⟩) ::
  (nat_lit 49, ⟨Value.type "type", none, Data.cls { name := Str.ofString "NoSize", bases := [Value.ref 24], mro := [Value.ref 49, Value.ref 24, Value.type "ValueError", Value.type "Exception", Value.type "BaseException", Value.type "object"], ns := 48, qualname := Str.ofString "NoSize" }, #[some (Value.ref 40), none, some (Value.str (Str.ofString "NoSize") 223), some (Value.str (Str.ofString "NoSize") 231), some (Value.builtin "ValueError.__new__"), some (Value.bool true)]⟩) ::
  (nat_lit 52, ⟨Value.type "tuple", none, Data.seq #[Value.ref 24], #[]⟩) ::
  (nat_lit 59, ⟨Value.type "tuple", none, Data.seq #[], #[]⟩) ::
  (nat_lit 60, ⟨Value.type "dict", none, Data.dict #[en P "__module__" 246 (Value.str (Str.ofString "ringseat.errors") 187), en P "__firstlineno__" 250 (Value.int 8 249), en P "__static_attributes__" 251 (Value.ref 59), en P "__doc__" 252 (Value.none)] 2, #[]⟩) ::
  (nat_lit 61, ⟨Value.type "type", none, Data.cls { name := Str.ofString "Twice", bases := [Value.ref 24], mro := [Value.ref 61, Value.ref 24, Value.type "ValueError", Value.type "Exception", Value.type "BaseException", Value.type "object"], ns := 60, qualname := Str.ofString "Twice" }, #[some (Value.ref 52), none, some (Value.str (Str.ofString "Twice") 239), some (Value.str (Str.ofString "Twice") 247), some (Value.builtin "ValueError.__new__"), some (Value.bool true)]⟩) ::
  (nat_lit 64, ⟨Value.type "tuple", none, Data.seq #[Value.ref 24], #[]⟩) ::
  (nat_lit 71, ⟨Value.type "tuple", none, Data.seq #[], #[]⟩) ::
  (nat_lit 72, ⟨Value.type "dict", none, Data.dict #[en P "__module__" 262 (Value.str (Str.ofString "ringseat.errors") 187), en P "__firstlineno__" 266 (Value.int 10 265), en P "__static_attributes__" 267 (Value.ref 71), en P "__doc__" 268 (Value.none)] 2, #[]⟩) ::
  (nat_lit 73, ⟨Value.type "type", none, Data.cls { name := Str.ofString "Away", bases := [Value.ref 24], mro := [Value.ref 73, Value.ref 24, Value.type "ValueError", Value.type "Exception", Value.type "BaseException", Value.type "object"], ns := 72, qualname := Str.ofString "Away" }, #[some (Value.ref 64), none, some (Value.str (Str.ofString "Away") 255), some (Value.str (Str.ofString "Away") 263), some (Value.builtin "ValueError.__new__"), some (Value.bool true)]⟩) ::
  (nat_lit 76, ⟨Value.type "tuple", none, Data.seq #[Value.ref 24], #[]⟩) ::
  (nat_lit 83, ⟨Value.type "tuple", none, Data.seq #[], #[]⟩) ::
  (nat_lit 84, ⟨Value.type "dict", none, Data.dict #[en P "__module__" 278 (Value.str (Str.ofString "ringseat.errors") 187), en P "__firstlineno__" 282 (Value.int 12 281), en P "__static_attributes__" 283 (Value.ref 83), en P "__doc__" 284 (Value.none)] 2, #[]⟩) ::
  (nat_lit 85, ⟨Value.type "type", none, Data.cls { name := Str.ofString "Full", bases := [Value.ref 24], mro := [Value.ref 85, Value.ref 24, Value.type "ValueError", Value.type "Exception", Value.type "BaseException", Value.type "object"], ns := 84, qualname := Str.ofString "Full" }, #[some (Value.ref 76), none, some (Value.str (Str.ofString "Full") 271), some (Value.str (Str.ofString "Full") 279), some (Value.builtin "ValueError.__new__"), some (Value.bool true)]⟩) ::
  (nat_lit 88, ⟨Value.type "tuple", none, Data.seq #[Value.int 8 293, Value.int 16 294, Value.int 32 295, Value.int 64 296, Value.int 128 297, Value.int 256 298], #[]⟩) ::
  (nat_lit 89, ⟨Value.type "tuple", none, Data.seq #[], #[]⟩) ::
  (nat_lit 91, ⟨Value.type "tuple", none, Data.seq #[Value.str (Str.ofString "thing") 303], #[]⟩) ::
  (nat_lit 92, ⟨Value.type "tuple", none, Data.seq #[], #[]⟩) ::
  (nat_lit 94, ⟨Value.type "code", none, Data.fields #[Value.str (Str.ofString "is_whole") 300, Value.str (Str.ofString "is_whole") 301, Value.str (Str.ofString "/claim/cut.py") 302, Value.int 18 0, Value.int 1 0, Value.int 0 0, Value.int 0 0, Value.int 3 0, Value.ref 89, Value.bool true, Value.int 181 0, Value.ref 90, Value.none, Value.ref 91, Value.ref 92, Value.ref 93, Value.int 304 0, Value.int 18 0, Value.str (Str.ofString "/claim/cut.py") 305], #[]⟩) ::
  (nat_lit 95, ⟨Value.type "function", none, .func (fn (tp 11) "is_whole" "is_whole" (Value.none) (Value.none) (Value.none) (Value.str (Str.ofString "ringseat.homes") 287) (none) (Value.ref 94) (Value.none)), #[]⟩) ::
  (nat_lit 96, ⟨Value.type "tuple", none, Data.seq #[], #[]⟩) ::
  (nat_lit 98, ⟨Value.type "tuple", none, Data.seq #[Value.str (Str.ofString "thing") 310], #[]⟩) ::
  (nat_lit 99, ⟨Value.type "tuple", none, Data.seq #[], #[]⟩) ::
  (nat_lit 101, ⟨Value.type "code", none, Data.fields #[Value.str (Str.ofString "is_guest") 307, Value.str (Str.ofString "is_guest") 308, Value.str (Str.ofString "/claim/cut.py") 309, Value.int 20 0, Value.int 1 0, Value.int 0 0, Value.int 0 0, Value.int 3 0, Value.ref 96, Value.bool true, Value.int 181 0, Value.ref 97, Value.none, Value.ref 98, Value.ref 99, Value.ref 100, Value.int 311 0, Value.int 20 0, Value.str (Str.ofString "/claim/cut.py") 312], #[]⟩) ::
  (nat_lit 102, ⟨Value.type "function", none, .func (fn (tp 12) "is_guest" "is_guest" (Value.none) (Value.none) (Value.none) (Value.str (Str.ofString "ringseat.homes") 287) (none) (Value.ref 101) (Value.none)), #[]⟩) ::
  (nat_lit 103, ⟨Value.type "tuple", none, Data.seq #[], #[]⟩) ::
  (nat_lit 105, ⟨Value.type "tuple", none, Data.seq #[Value.str (Str.ofString "guest") 317, Value.str (Str.ofString "many") 318], #[]⟩) ::
  (nat_lit 106, ⟨Value.type "tuple", none, Data.seq #[], #[]⟩) ::
  (nat_lit 108, ⟨Value.type "code", none, Data.fields #[Value.str (Str.ofString "home") 314, Value.str (Str.ofString "home") 315, Value.str (Str.ofString "/claim/cut.py") 316, Value.int 22 0, Value.int 2 0, Value.int 0 0, Value.int 0 0, Value.int 3 0, Value.ref 103, Value.bool true, Value.int 181 0, Value.ref 104, Value.none, Value.ref 105, Value.ref 106, Value.ref 107, Value.int 319 0, Value.int 22 0, Value.str (Str.ofString "/claim/cut.py") 320], #[]⟩) ::
  (nat_lit 109, ⟨Value.type "function", none, .func (fn (tp 13) "home" "home" (Value.none) (Value.none) (Value.none) (Value.str (Str.ofString "ringseat.homes") 287) (none) (Value.ref 108) (Value.none)), #[]⟩) ::
  (nat_lit 110, ⟨Value.type "tuple", none, Data.seq #[], #[]⟩) ::
  (nat_lit 112, ⟨Value.type "tuple", none, Data.seq #[Value.str (Str.ofString "guest") 325, Value.str (Str.ofString "at") 326, Value.str (Str.ofString "many") 327], #[]⟩) ::
  (nat_lit 113, ⟨Value.type "tuple", none, Data.seq #[], #[]⟩) ::
  (nat_lit 115, ⟨Value.type "code", none, Data.fields #[Value.str (Str.ofString "carried") 322, Value.str (Str.ofString "carried") 323, Value.str (Str.ofString "/claim/cut.py") 324, Value.int 24 0, Value.int 3 0, Value.int 0 0, Value.int 0 0, Value.int 3 0, Value.ref 110, Value.bool true, Value.int 181 0, Value.ref 111, Value.none, Value.ref 112, Value.ref 113, Value.ref 114, Value.int 328 0, Value.int 24 0, Value.str (Str.ofString "/claim/cut.py") 329], #[]⟩) ::
  (nat_lit 116, ⟨Value.type "function", none, .func (fn (tp 14) "carried" "carried" (Value.none) (Value.none) (Value.none) (Value.str (Str.ofString "ringseat.homes") 287) (none) (Value.ref 115) (Value.none)), #[]⟩) ::
  (nat_lit 117, ⟨Value.type "tuple", none, Data.seq #[], #[]⟩) ::
  (nat_lit 119, ⟨Value.type "tuple", none, Data.seq #[Value.str (Str.ofString "one") 334, Value.str (Str.ofString "other") 335, Value.str (Str.ofString "at") 336, Value.str (Str.ofString "many") 337, Value.str (Str.ofString "way_of_one") 338, Value.str (Str.ofString "way_of_other") 339], #[]⟩) ::
  (nat_lit 120, ⟨Value.type "tuple", none, Data.seq #[], #[]⟩) ::
  (nat_lit 122, ⟨Value.type "code", none, Data.fields #[Value.str (Str.ofString "ahead") 331, Value.str (Str.ofString "ahead") 332, Value.str (Str.ofString "/claim/cut.py") 333, Value.int 26 0, Value.int 4 0, Value.int 0 0, Value.int 0 0, Value.int 3 0, Value.ref 117, Value.bool true, Value.int 181 0, Value.ref 118, Value.none, Value.ref 119, Value.ref 120, Value.ref 121, Value.int 340 0, Value.int 26 0, Value.str (Str.ofString "/claim/cut.py") 341], #[]⟩) ::
  (nat_lit 123, ⟨Value.type "function", none, .func (fn (tp 15) "ahead" "ahead" (Value.none) (Value.none) (Value.none) (Value.str (Str.ofString "ringseat.homes") 287) (none) (Value.ref 122) (Value.none)), #[]⟩) ::
  (nat_lit 124, ⟨Value.type "tuple", none, Data.seq #[], #[]⟩) ::
  (nat_lit 126, ⟨Value.type "tuple", none, Data.seq #[Value.str (Str.ofString "count") 346, Value.str (Str.ofString "seats") 347], #[]⟩) ::
  (nat_lit 127, ⟨Value.type "tuple", none, Data.seq #[], #[]⟩) ::
  (nat_lit 129, ⟨Value.type "code", none, Data.fields #[Value.str (Str.ofString "room") 343, Value.str (Str.ofString "room") 344, Value.str (Str.ofString "/claim/cut.py") 345, Value.int 32 0, Value.int 1 0, Value.int 0 0, Value.int 0 0, Value.int 3 0, Value.ref 124, Value.bool true, Value.int 181 0, Value.ref 125, Value.none, Value.ref 126, Value.ref 127, Value.ref 128, Value.int 348 0, Value.int 32 0, Value.str (Str.ofString "/claim/cut.py") 349], #[]⟩) ::
  (nat_lit 130, ⟨Value.type "function", none, .func (fn (tp 16) "room" "room" (Value.none) (Value.none) (Value.none) (Value.str (Str.ofString "ringseat.homes") 287) (none) (Value.ref 129) (Value.none)), #[]⟩) ::
  (nat_lit 131, ⟨Value.type "tuple", none, Data.seq #[], #[]⟩) ::
  (nat_lit 133, ⟨Value.type "tuple", none, Data.seq #[Value.str (Str.ofString "thing") 356], #[]⟩) ::
  (nat_lit 134, ⟨Value.type "tuple", none, Data.seq #[], #[]⟩) ::
  (nat_lit 136, ⟨Value.type "code", none, Data.fields #[Value.str (Str.ofString "check_guest") 353, Value.str (Str.ofString "check_guest") 354, Value.str (Str.ofString "/claim/cut.py") 355, Value.int 38 0, Value.int 1 0, Value.int 0 0, Value.int 0 0, Value.int 3 0, Value.ref 131, Value.bool true, Value.int 181 0, Value.ref 132, Value.none, Value.ref 133, Value.ref 134, Value.ref 135, Value.int 357 0, Value.int 38 0, Value.str (Str.ofString "/claim/cut.py") 358], #[]⟩) ::
  (nat_lit 137, ⟨Value.type "function", none, .func (fn (tp 18) "check_guest" "check_guest" (Value.none) (Value.none) (Value.none) (Value.str (Str.ofString "ringseat.seats") 351) (none) (Value.ref 136) (Value.none)), #[]⟩) ::
  (nat_lit 138, ⟨Value.type "tuple", none, Data.seq #[], #[]⟩) ::
  (nat_lit 140, ⟨Value.type "tuple", none, Data.seq #[Value.str (Str.ofString "seats") 363, Value.str (Str.ofString "guest") 364, Value.str (Str.ofString "many") 365, Value.str (Str.ofString "steps") 366, Value.str (Str.ofString "at") 367], #[]⟩) ::
  (nat_lit 141, ⟨Value.type "tuple", none, Data.seq #[], #[]⟩) ::
  (nat_lit 143, ⟨Value.type "code", none, Data.fields #[Value.str (Str.ofString "passed") 360, Value.str (Str.ofString "passed") 361, Value.str (Str.ofString "/claim/cut.py") 362, Value.int 41 0, Value.int 2 0, Value.int 0 0, Value.int 0 0, Value.int 3 0, Value.ref 138, Value.bool true, Value.int 181 0, Value.ref 139, Value.none, Value.ref 140, Value.ref 141, Value.ref 142, Value.int 368 0, Value.int 41 0, Value.str (Str.ofString "/claim/cut.py") 369], #[]⟩) ::
  (nat_lit 144, ⟨Value.type "function", none, .func (fn (tp 19) "passed" "passed" (Value.none) (Value.none) (Value.none) (Value.str (Str.ofString "ringseat.seats") 351) (none) (Value.ref 143) (Value.none)), #[]⟩) ::
  (nat_lit 145, ⟨Value.type "tuple", none, Data.seq #[], #[]⟩) ::
  (nat_lit 147, ⟨Value.type "tuple", none, Data.seq #[Value.str (Str.ofString "seats") 374, Value.str (Str.ofString "guest") 375, Value.str (Str.ofString "many") 376, Value.str (Str.ofString "at") 377], #[]⟩) ::
  (nat_lit 148, ⟨Value.type "tuple", none, Data.seq #[], #[]⟩) ::
  (nat_lit 150, ⟨Value.type "code", none, Data.fields #[Value.str (Str.ofString "place_of") 371, Value.str (Str.ofString "place_of") 372, Value.str (Str.ofString "/claim/cut.py") 373, Value.int 49 0, Value.int 2 0, Value.int 0 0, Value.int 0 0, Value.int 3 0, Value.ref 145, Value.bool true, Value.int 181 0, Value.ref 146, Value.none, Value.ref 147, Value.ref 148, Value.ref 149, Value.int 378 0, Value.int 49 0, Value.str (Str.ofString "/claim/cut.py") 379], #[]⟩) ::
  (nat_lit 151, ⟨Value.type "function", none, .func (fn (tp 20) "place_of" "place_of" (Value.none) (Value.none) (Value.none) (Value.str (Str.ofString "ringseat.seats") 351) (none) (Value.ref 150) (Value.none)), #[]⟩) ::
  (nat_lit 152, ⟨Value.type "tuple", none, Data.seq #[], #[]⟩) ::
  (nat_lit 154, ⟨Value.type "tuple", none, Data.seq #[Value.str (Str.ofString "seats") 386, Value.str (Str.ofString "guest") 387, Value.str (Str.ofString "answer") 388], #[]⟩) ::
  (nat_lit 155, ⟨Value.type "tuple", none, Data.seq #[], #[]⟩) ::
  (nat_lit 157, ⟨Value.type "code", none, Data.fields #[Value.str (Str.ofString "seat_in") 383, Value.str (Str.ofString "seat_in") 384, Value.str (Str.ofString "/claim/cut.py") 385, Value.int 55 0, Value.int 2 0, Value.int 0 0, Value.int 0 0, Value.int 3 0, Value.ref 152, Value.bool true, Value.int 181 0, Value.ref 153, Value.none, Value.ref 154, Value.ref 155, Value.ref 156, Value.int 389 0, Value.int 55 0, Value.str (Str.ofString "/claim/cut.py") 390], #[]⟩) ::
  (nat_lit 158, ⟨Value.type "function", none, .func (fn (tp 22) "seat_in" "seat_in" (Value.none) (Value.none) (Value.none) (Value.str (Str.ofString "ringseat.moves") 381) (none) (Value.ref 157) (Value.none)), #[]⟩) ::
  (nat_lit 159, ⟨Value.type "tuple", none, Data.seq #[], #[]⟩) ::
  (nat_lit 161, ⟨Value.type "tuple", none, Data.seq #[Value.str (Str.ofString "seats") 395, Value.str (Str.ofString "guest") 396, Value.str (Str.ofString "many") 397, Value.str (Str.ofString "moving") 398, Value.str (Str.ofString "at") 399, Value.str (Str.ofString "sitting") 400], #[]⟩) ::
  (nat_lit 162, ⟨Value.type "tuple", none, Data.seq #[], #[]⟩) ::
  (nat_lit 164, ⟨Value.type "code", none, Data.fields #[Value.str (Str.ofString "put") 392, Value.str (Str.ofString "put") 393, Value.str (Str.ofString "/claim/cut.py") 394, Value.int 63 0, Value.int 2 0, Value.int 0 0, Value.int 0 0, Value.int 3 0, Value.ref 159, Value.bool true, Value.int 181 0, Value.ref 160, Value.none, Value.ref 161, Value.ref 162, Value.ref 163, Value.int 401 0, Value.int 63 0, Value.str (Str.ofString "/claim/cut.py") 402], #[]⟩) ::
  (nat_lit 165, ⟨Value.type "function", none, .func (fn (tp 23) "put" "put" (Value.none) (Value.none) (Value.none) (Value.str (Str.ofString "ringseat.moves") 381) (none) (Value.ref 164) (Value.none)), #[]⟩) ::
  (nat_lit 166, ⟨Value.type "tuple", none, Data.seq #[], #[]⟩) ::
  (nat_lit 168, ⟨Value.type "tuple", none, Data.seq #[Value.str (Str.ofString "seats") 407, Value.str (Str.ofString "guest") 408, Value.str (Str.ofString "gap") 409, Value.str (Str.ofString "many") 410, Value.str (Str.ofString "answer") 411, Value.str (Str.ofString "at") 412], #[]⟩) ::
  (nat_lit 169, ⟨Value.type "tuple", none, Data.seq #[], #[]⟩) ::
  (nat_lit 171, ⟨Value.type "code", none, Data.fields #[Value.str (Str.ofString "seat_out") 404, Value.str (Str.ofString "seat_out") 405, Value.str (Str.ofString "/claim/cut.py") 406, Value.int 74 0, Value.int 2 0, Value.int 0 0, Value.int 0 0, Value.int 3 0, Value.ref 166, Value.bool true, Value.int 181 0, Value.ref 167, Value.none, Value.ref 168, Value.ref 169, Value.ref 170, Value.int 413 0, Value.int 74 0, Value.str (Str.ofString "/claim/cut.py") 414], #[]⟩) ::
  (nat_lit 172, ⟨Value.type "function", none, .func (fn (tp 24) "seat_out" "seat_out" (Value.none) (Value.none) (Value.none) (Value.str (Str.ofString "ringseat.moves") 381) (none) (Value.ref 171) (Value.none)), #[]⟩) ::
  (nat_lit 173, ⟨Value.type "tuple", none, Data.seq #[], #[]⟩) ::
  (nat_lit 175, ⟨Value.type "tuple", none, Data.seq #[Value.str (Str.ofString "guests") 419, Value.str (Str.ofString "many") 420, Value.str (Str.ofString "thing") 421], #[]⟩) ::
  (nat_lit 176, ⟨Value.type "tuple", none, Data.seq #[], #[]⟩) ::
  (nat_lit 178, ⟨Value.type "code", none, Data.fields #[Value.str (Str.ofString "check_list") 416, Value.str (Str.ofString "check_list") 417, Value.str (Str.ofString "/claim/cut.py") 418, Value.int 87 0, Value.int 2 0, Value.int 0 0, Value.int 0 0, Value.int 3 0, Value.ref 173, Value.bool true, Value.int 181 0, Value.ref 174, Value.none, Value.ref 175, Value.ref 176, Value.ref 177, Value.int 422 0, Value.int 87 0, Value.str (Str.ofString "/claim/cut.py") 423], #[]⟩) ::
  (nat_lit 179, ⟨Value.type "function", none, .func (fn (tp 25) "check_list" "check_list" (Value.none) (Value.none) (Value.none) (Value.str (Str.ofString "ringseat.moves") 381) (none) (Value.ref 178) (Value.none)), #[]⟩) ::
  (nat_lit 180, ⟨Value.type "tuple", none, Data.seq #[], #[]⟩) ::
  (nat_lit 182, ⟨Value.type "tuple", none, Data.seq #[Value.str (Str.ofString "guests") 428, Value.str (Str.ofString "many") 429, Value.str (Str.ofString "seats") 430, Value.str (Str.ofString "guest") 431], #[]⟩) ::
  (nat_lit 183, ⟨Value.type "tuple", none, Data.seq #[], #[]⟩) ::
  (nat_lit 185, ⟨Value.type "code", none, Data.fields #[Value.str (Str.ofString "seated") 425, Value.str (Str.ofString "seated") 426, Value.str (Str.ofString "/claim/cut.py") 427, Value.int 94 0, Value.int 2 0, Value.int 0 0, Value.int 0 0, Value.int 3 0, Value.ref 180, Value.bool true, Value.int 181 0, Value.ref 181, Value.none, Value.ref 182, Value.ref 183, Value.ref 184, Value.int 432 0, Value.int 94 0, Value.str (Str.ofString "/claim/cut.py") 433], #[]⟩) ::
  (nat_lit 186, ⟨Value.type "function", none, .func (fn (tp 26) "seated" "seated" (Value.none) (Value.none) (Value.none) (Value.str (Str.ofString "ringseat.moves") 381) (none) (Value.ref 185) (Value.none)), #[]⟩) ::
  (nat_lit 187, ⟨Value.type "tuple", none, Data.seq #[], #[]⟩) ::
  (nat_lit 190, ⟨Value.type "code", none, Data.fields #[Value.str (Str.ofString "all_in") 439, Value.str (Str.ofString "all_in") 440, Value.str (Str.ofString "/claim/cut.py") 441, Value.int 102 0, Value.int 1 0, Value.int 0 0, Value.int 0 0, Value.int 3 0, Value.ref 187, Value.bool true, Value.int 181 0, Value.ref 188, Value.none, Value.none, Value.none, Value.ref 189, Value.int 442 0, Value.int 102 0, Value.str (Str.ofString "/claim/cut.py") 443], #[]⟩) ::
  (nat_lit 191, ⟨Value.type "function", none, .func (fn (tp 29) "all_in" "all_in" (Value.none) (Value.none) (Value.none) (Value.str (Str.ofString "ringseat.house") 435) (none) (Value.ref 190) (Value.none)), #[]⟩) ::
  (nat_lit 192, ⟨Value.type "tuple", none, Data.seq #[], #[]⟩) ::
  (nat_lit 194, ⟨Value.type "tuple", none, Data.seq #[Value.str (Str.ofString "seats") 448, Value.str (Str.ofString "present") 449, Value.str (Str.ofString "many") 450], #[]⟩) ::
  (nat_lit 195, ⟨Value.type "tuple", none, Data.seq #[], #[]⟩) ::
  (nat_lit 197, ⟨Value.type "code", none, Data.fields #[Value.str (Str.ofString "fitted") 445, Value.str (Str.ofString "fitted") 446, Value.str (Str.ofString "/claim/cut.py") 447, Value.int 104 0, Value.int 1 0, Value.int 0 0, Value.int 0 0, Value.int 3 0, Value.ref 192, Value.bool true, Value.int 181 0, Value.ref 193, Value.none, Value.ref 194, Value.ref 195, Value.ref 196, Value.int 451 0, Value.int 104 0, Value.str (Str.ofString "/claim/cut.py") 452], #[]⟩) ::
  (nat_lit 198, ⟨Value.type "function", none, .func (fn (tp 30) "fitted" "fitted" (Value.none) (Value.none) (Value.none) (Value.str (Str.ofString "ringseat.house") 435) (none) (Value.ref 197) (Value.none)), #[]⟩) ::
  (nat_lit 206, ⟨Value.type "tuple", none, Data.seq #[Value.int 96 466], #[]⟩) ::
  (nat_lit 207, ⟨Value.type "tuple", none, Data.seq #[], #[]⟩) ::
  (nat_lit 209, ⟨Value.type "tuple", none, Data.seq #[Value.str (Str.ofString "self") 470, Value.str (Str.ofString "most") 471], #[]⟩) ::
  (nat_lit 210, ⟨Value.type "tuple", none, Data.seq #[], #[]⟩) ::
  (nat_lit 212, ⟨Value.type "code", none, Data.fields #[Value.str (Str.ofString "__init__") 467, Value.str (Str.ofString "House.__init__") 468, Value.str (Str.ofString "/claim/cut.py") 469, Value.int 110 0, Value.int 2 0, Value.int 0 0, Value.int 0 0, Value.int 3 0, Value.ref 207, Value.bool true, Value.int 181 0, Value.ref 208, Value.none, Value.ref 209, Value.ref 210, Value.ref 211, Value.int 472 0, Value.int 110 0, Value.str (Str.ofString "/claim/cut.py") 473], #[]⟩) ::
  (nat_lit 213, ⟨Value.type "function", none, .func (fn (inC (tp 31) 0) "__init__" "House.__init__" (Value.ref 206) (Value.none) (Value.none) (Value.str (Str.ofString "ringseat.house") 435) (none) (Value.ref 212) (Value.none)), #[]⟩) ::
  (nat_lit 214, ⟨Value.type "tuple", none, Data.seq #[], #[]⟩) ::
  (nat_lit 216, ⟨Value.type "tuple", none, Data.seq #[Value.str (Str.ofString "self") 478, Value.str (Str.ofString "guest") 479], #[]⟩) ::
  (nat_lit 217, ⟨Value.type "tuple", none, Data.seq #[], #[]⟩) ::
  (nat_lit 219, ⟨Value.type "code", none, Data.fields #[Value.str (Str.ofString "come") 475, Value.str (Str.ofString "House.come") 476, Value.str (Str.ofString "/claim/cut.py") 477, Value.int 116 0, Value.int 2 0, Value.int 0 0, Value.int 0 0, Value.int 3 0, Value.ref 214, Value.bool true, Value.int 181 0, Value.ref 215, Value.none, Value.ref 216, Value.ref 217, Value.ref 218, Value.int 480 0, Value.int 116 0, Value.str (Str.ofString "/claim/cut.py") 481], #[]⟩) ::
  (nat_lit 220, ⟨Value.type "function", none, .func (fn (inC (tp 31) 1) "come" "House.come" (Value.none) (Value.none) (Value.none) (Value.str (Str.ofString "ringseat.house") 435) (none) (Value.ref 219) (Value.none)), #[]⟩) ::
  (nat_lit 221, ⟨Value.type "tuple", none, Data.seq #[], #[]⟩) ::
  (nat_lit 223, ⟨Value.type "tuple", none, Data.seq #[Value.str (Str.ofString "self") 486, Value.str (Str.ofString "guest") 487, Value.str (Str.ofString "at") 488], #[]⟩) ::
  (nat_lit 224, ⟨Value.type "tuple", none, Data.seq #[], #[]⟩) ::
  (nat_lit 226, ⟨Value.type "code", none, Data.fields #[Value.str (Str.ofString "go") 483, Value.str (Str.ofString "House.go") 484, Value.str (Str.ofString "/claim/cut.py") 485, Value.int 124 0, Value.int 2 0, Value.int 0 0, Value.int 0 0, Value.int 3 0, Value.ref 221, Value.bool true, Value.int 181 0, Value.ref 222, Value.none, Value.ref 223, Value.ref 224, Value.ref 225, Value.int 489 0, Value.int 124 0, Value.str (Str.ofString "/claim/cut.py") 490], #[]⟩) ::
  (nat_lit 227, ⟨Value.type "function", none, .func (fn (inC (tp 31) 2) "go" "House.go" (Value.none) (Value.none) (Value.none) (Value.str (Str.ofString "ringseat.house") 435) (none) (Value.ref 226) (Value.none)), #[]⟩) ::
  (nat_lit 228, ⟨Value.type "tuple", none, Data.seq #[], #[]⟩) ::
  (nat_lit 230, ⟨Value.type "tuple", none, Data.seq #[Value.str (Str.ofString "self") 495, Value.str (Str.ofString "guest") 496], #[]⟩) ::
  (nat_lit 231, ⟨Value.type "tuple", none, Data.seq #[], #[]⟩) ::
  (nat_lit 233, ⟨Value.type "code", none, Data.fields #[Value.str (Str.ofString "seat_of") 492, Value.str (Str.ofString "House.seat_of") 493, Value.str (Str.ofString "/claim/cut.py") 494, Value.int 131 0, Value.int 2 0, Value.int 0 0, Value.int 0 0, Value.int 3 0, Value.ref 228, Value.bool true, Value.int 181 0, Value.ref 229, Value.none, Value.ref 230, Value.ref 231, Value.ref 232, Value.int 497 0, Value.int 131 0, Value.str (Str.ofString "/claim/cut.py") 498], #[]⟩) ::
  (nat_lit 234, ⟨Value.type "function", none, .func (fn (inC (tp 31) 3) "seat_of" "House.seat_of" (Value.none) (Value.none) (Value.none) (Value.str (Str.ofString "ringseat.house") 435) (none) (Value.ref 233) (Value.none)), #[]⟩) ::
  (nat_lit 235, ⟨Value.type "tuple", none, Data.seq #[], #[]⟩) ::
  (nat_lit 237, ⟨Value.type "tuple", none, Data.seq #[Value.str (Str.ofString "self") 503], #[]⟩) ::
  (nat_lit 238, ⟨Value.type "tuple", none, Data.seq #[], #[]⟩) ::
  (nat_lit 240, ⟨Value.type "code", none, Data.fields #[Value.str (Str.ofString "row") 500, Value.str (Str.ofString "House.row") 501, Value.str (Str.ofString "/claim/cut.py") 502, Value.int 134 0, Value.int 1 0, Value.int 0 0, Value.int 0 0, Value.int 3 0, Value.ref 235, Value.bool true, Value.int 181 0, Value.ref 236, Value.none, Value.ref 237, Value.ref 238, Value.ref 239, Value.int 504 0, Value.int 134 0, Value.str (Str.ofString "/claim/cut.py") 505], #[]⟩) ::
  (nat_lit 241, ⟨Value.type "function", none, .func (fn (inC (tp 31) 4) "row" "House.row" (Value.none) (Value.none) (Value.none) (Value.str (Str.ofString "ringseat.house") 435) (none) (Value.ref 240) (Value.none)), #[]⟩) ::
  (nat_lit 242, ⟨Value.type "tuple", none, Data.seq #[], #[]⟩) ::
  (nat_lit 244, ⟨Value.type "tuple", none, Data.seq #[Value.str (Str.ofString "self") 510], #[]⟩) ::
  (nat_lit 245, ⟨Value.type "tuple", none, Data.seq #[], #[]⟩) ::
  (nat_lit 247, ⟨Value.type "code", none, Data.fields #[Value.str (Str.ofString "guests") 507, Value.str (Str.ofString "House.guests") 508, Value.str (Str.ofString "/claim/cut.py") 509, Value.int 137 0, Value.int 1 0, Value.int 0 0, Value.int 0 0, Value.int 3 0, Value.ref 242, Value.bool true, Value.int 181 0, Value.ref 243, Value.none, Value.ref 244, Value.ref 245, Value.ref 246, Value.int 511 0, Value.int 137 0, Value.str (Str.ofString "/claim/cut.py") 512], #[]⟩) ::
  (nat_lit 248, ⟨Value.type "function", none, .func (fn (inC (tp 31) 5) "guests" "House.guests" (Value.none) (Value.none) (Value.none) (Value.str (Str.ofString "ringseat.house") 435) (none) (Value.ref 247) (Value.none)), #[]⟩) ::
  (nat_lit 249, ⟨Value.type "tuple", none, Data.seq #[], #[]⟩) ::
  (nat_lit 251, ⟨Value.type "tuple", none, Data.seq #[Value.str (Str.ofString "self") 517], #[]⟩) ::
  (nat_lit 252, ⟨Value.type "tuple", none, Data.seq #[], #[]⟩) ::
  (nat_lit 254, ⟨Value.type "code", none, Data.fields #[Value.str (Str.ofString "many") 514, Value.str (Str.ofString "House.many") 515, Value.str (Str.ofString "/claim/cut.py") 516, Value.int 140 0, Value.int 1 0, Value.int 0 0, Value.int 0 0, Value.int 3 0, Value.ref 249, Value.bool true, Value.int 181 0, Value.ref 250, Value.none, Value.ref 251, Value.ref 252, Value.ref 253, Value.int 518 0, Value.int 140 0, Value.str (Str.ofString "/claim/cut.py") 519], #[]⟩) ::
  (nat_lit 255, ⟨Value.type "function", none, .func (fn (inC (tp 31) 6) "many" "House.many" (Value.none) (Value.none) (Value.none) (Value.str (Str.ofString "ringseat.house") 435) (none) (Value.ref 254) (Value.none)), #[]⟩) ::
  (nat_lit 256, ⟨Value.type "tuple", none, Data.seq #[Value.str (Str.ofString "most") 521, Value.str (Str.ofString "seats") 522], #[]⟩) ::
  (nat_lit 257, ⟨Value.type "dict", none, Data.dict #[en P "__module__" 461 (Value.str (Str.ofString "ringseat.house") 435), en P "__firstlineno__" 465 (Value.int 108 464), en P "__init__" 474 (Value.ref 213), en P "come" 482 (Value.ref 220), en P "go" 491 (Value.ref 227), en P "seat_of" 499 (Value.ref 234), en P "row" 506 (Value.ref 241), en P "guests" 513 (Value.ref 248), en P "many" 520 (Value.ref 255), en P "__static_attributes__" 523 (Value.ref 256), en P "__dict__" 525 (Value.ref 259), en P "__weakref__" 527 (Value.ref 260), en P "__doc__" 528 (Value.none)] 4, #[]⟩) ::
  (nat_lit 258, ⟨Value.type "type", none, Data.cls { name := Str.ofString "House", bases := [Value.type "object"], mro := [Value.ref 258, Value.type "object"], ns := 257, qualname := Str.ofString "House" }, #[none, none, some (Value.str (Str.ofString "House") 454), some (Value.str (Str.ofString "House") 462), some (Value.builtin "object.__new__"), some (Value.bool true)]⟩) ::
  (nat_lit 259, ⟨Value.type "getset_descriptor", none, Data.fields #[Value.str (Str.ofString "__dict__") 524, Value.ref 258, Value.builtin "function.__dict__", Value.builtin "function.__dict__#set"], #[]⟩) ::
  (nat_lit 260, ⟨Value.type "getset_descriptor", none, Data.fields #[Value.str (Str.ofString "__weakref__") 526, Value.ref 258, Value.builtin "ExceptionGroup.__weakref__", Value.none], #[]⟩) ::
  (nat_lit 263, ⟨Value.type "tuple", none, Data.seq #[], #[]⟩) ::
  (nat_lit 265, ⟨Value.type "tuple", none, Data.seq #[Value.str (Str.ofString "_law_script") 536, Value.str (Str.ofString "_law_k") 537], #[]⟩) ::
  (nat_lit 266, ⟨Value.type "tuple", none, Data.seq #[], #[]⟩) ::
  (nat_lit 268, ⟨Value.type "code", none, Data.fields #[Value.str (Str.ofString "_law_cell_at") 533, Value.str (Str.ofString "_law_cell_at") 534, Value.str (Str.ofString "/claim/cut.py") 535, Value.int 143 0, Value.int 2 0, Value.int 0 0, Value.int 0 0, Value.int 3 0, Value.ref 263, Value.bool true, Value.int 181 0, Value.ref 264, Value.none, Value.ref 265, Value.ref 266, Value.ref 267, Value.int 538 0, Value.int 143 0, Value.str (Str.ofString "/claim/cut.py") 539], #[]⟩) ::
  (nat_lit 269, ⟨Value.type "function", none, .func (fn (tp 33) "_law_cell_at" "_law_cell_at" (Value.none) (Value.none) (Value.none) (Value.str (Str.ofString "law_ringseat_k10_a_house") 531) (none) (Value.ref 268) (Value.none)), #[]⟩) ::
  (nat_lit 270, ⟨Value.type "tuple", none, Data.seq #[], #[]⟩) ::
  (nat_lit 272, ⟨Value.type "tuple", none, Data.seq #[Value.str (Str.ofString "_law_found") 544], #[]⟩) ::
  (nat_lit 273, ⟨Value.type "tuple", none, Data.seq #[], #[]⟩) ::
  (nat_lit 275, ⟨Value.type "code", none, Data.fields #[Value.str (Str.ofString "_law_whole") 541, Value.str (Str.ofString "_law_whole") 542, Value.str (Str.ofString "/claim/cut.py") 543, Value.int 147 0, Value.int 1 0, Value.int 0 0, Value.int 0 0, Value.int 3 0, Value.ref 270, Value.bool true, Value.int 181 0, Value.ref 271, Value.none, Value.ref 272, Value.ref 273, Value.ref 274, Value.int 545 0, Value.int 147 0, Value.str (Str.ofString "/claim/cut.py") 546], #[]⟩) ::
  (nat_lit 276, ⟨Value.type "function", none, .func (fn (tp 34) "_law_whole" "_law_whole" (Value.none) (Value.none) (Value.none) (Value.str (Str.ofString "law_ringseat_k10_a_house") 531) (none) (Value.ref 275) (Value.none)), #[]⟩) ::
  (nat_lit 277, ⟨Value.type "tuple", none, Data.seq #[], #[]⟩) ::
  (nat_lit 279, ⟨Value.type "tuple", none, Data.seq #[Value.str (Str.ofString "_law_guest") 551, Value.str (Str.ofString "_law_many") 552], #[]⟩) ::
  (nat_lit 280, ⟨Value.type "tuple", none, Data.seq #[], #[]⟩) ::
  (nat_lit 282, ⟨Value.type "code", none, Data.fields #[Value.str (Str.ofString "_law_home") 548, Value.str (Str.ofString "_law_home") 549, Value.str (Str.ofString "/claim/cut.py") 550, Value.int 149 0, Value.int 2 0, Value.int 0 0, Value.int 0 0, Value.int 3 0, Value.ref 277, Value.bool true, Value.int 181 0, Value.ref 278, Value.none, Value.ref 279, Value.ref 280, Value.ref 281, Value.int 553 0, Value.int 149 0, Value.str (Str.ofString "/claim/cut.py") 554], #[]⟩) ::
  (nat_lit 283, ⟨Value.type "function", none, .func (fn (tp 35) "_law_home" "_law_home" (Value.none) (Value.none) (Value.none) (Value.str (Str.ofString "law_ringseat_k10_a_house") 531) (none) (Value.ref 282) (Value.none)), #[]⟩) ::
  (nat_lit 284, ⟨Value.type "tuple", none, Data.seq #[], #[]⟩) ::
  (nat_lit 287, ⟨Value.type "code", none, Data.fields #[Value.str (Str.ofString "_law_settled") 556, Value.str (Str.ofString "_law_settled") 557, Value.str (Str.ofString "/claim/cut.py") 558, Value.int 151 0, Value.int 2 0, Value.int 0 0, Value.int 0 0, Value.int 3 0, Value.ref 284, Value.bool true, Value.int 181 0, Value.ref 285, Value.none, Value.none, Value.none, Value.ref 286, Value.int 559 0, Value.int 151 0, Value.str (Str.ofString "/claim/cut.py") 560], #[]⟩) ::
  (nat_lit 288, ⟨Value.type "function", none, .func (fn (tp 36) "_law_settled" "_law_settled" (Value.none) (Value.none) (Value.none) (Value.str (Str.ofString "law_ringseat_k10_a_house") 531) (none) (Value.ref 287) (Value.none)), #[]⟩) ::
  (nat_lit 289, ⟨Value.type "tuple", none, Data.seq #[], #[]⟩) ::
  (nat_lit 291, ⟨Value.type "tuple", none, Data.seq #[Value.str (Str.ofString "_law_cell") 565, Value.str (Str.ofString "_law_number") 566, Value.str (Str.ofString "_law_some") 567], #[]⟩) ::
  (nat_lit 292, ⟨Value.type "tuple", none, Data.seq #[], #[]⟩) ::
  (nat_lit 294, ⟨Value.type "code", none, Data.fields #[Value.str (Str.ofString "_law_size") 562, Value.str (Str.ofString "_law_size") 563, Value.str (Str.ofString "/claim/cut.py") 564, Value.int 169 0, Value.int 1 0, Value.int 0 0, Value.int 0 0, Value.int 3 0, Value.ref 289, Value.bool true, Value.int 181 0, Value.ref 290, Value.none, Value.ref 291, Value.ref 292, Value.ref 293, Value.int 568 0, Value.int 169 0, Value.str (Str.ofString "/claim/cut.py") 569], #[]⟩) ::
  (nat_lit 295, ⟨Value.type "function", none, .func (fn (tp 37) "_law_size" "_law_size" (Value.none) (Value.none) (Value.none) (Value.str (Str.ofString "law_ringseat_k10_a_house") 531) (none) (Value.ref 294) (Value.none)), #[]⟩) ::
  (nat_lit 296, ⟨Value.type "tuple", none, Data.seq #[], #[]⟩) ::
  (nat_lit 298, ⟨Value.type "tuple", none, Data.seq #[Value.str (Str.ofString "_law_cell") 574, Value.str (Str.ofString "_law_number") 575, Value.str (Str.ofString "_law_some") 576], #[]⟩) ::
  (nat_lit 299, ⟨Value.type "tuple", none, Data.seq #[], #[]⟩) ::
  (nat_lit 301, ⟨Value.type "code", none, Data.fields #[Value.str (Str.ofString "_law_odd") 571, Value.str (Str.ofString "_law_odd") 572, Value.str (Str.ofString "/claim/cut.py") 573, Value.int 173 0, Value.int 1 0, Value.int 0 0, Value.int 0 0, Value.int 3 0, Value.ref 296, Value.bool true, Value.int 181 0, Value.ref 297, Value.none, Value.ref 298, Value.ref 299, Value.ref 300, Value.int 577 0, Value.int 173 0, Value.str (Str.ofString "/claim/cut.py") 578], #[]⟩) ::
  (nat_lit 302, ⟨Value.type "function", none, .func (fn (tp 38) "_law_odd" "_law_odd" (Value.none) (Value.none) (Value.none) (Value.str (Str.ofString "law_ringseat_k10_a_house") 531) (none) (Value.ref 301) (Value.none)), #[]⟩) ::
  (nat_lit 303, ⟨Value.type "tuple", none, Data.seq #[], #[]⟩) ::
  (nat_lit 305, ⟨Value.type "tuple", none, Data.seq #[Value.str (Str.ofString "_law_e") 583, Value.str (Str.ofString "_law_base") 584], #[]⟩) ::
  (nat_lit 306, ⟨Value.type "tuple", none, Data.seq #[], #[]⟩) ::
  (nat_lit 308, ⟨Value.type "code", none, Data.fields #[Value.str (Str.ofString "_law_kinds") 580, Value.str (Str.ofString "_law_kinds") 581, Value.str (Str.ofString "/claim/cut.py") 582, Value.int 177 0, Value.int 1 0, Value.int 0 0, Value.int 0 0, Value.int 3 0, Value.ref 303, Value.bool true, Value.int 181 0, Value.ref 304, Value.none, Value.ref 305, Value.ref 306, Value.ref 307, Value.int 585 0, Value.int 177 0, Value.str (Str.ofString "/claim/cut.py") 586], #[]⟩) ::
  (nat_lit 309, ⟨Value.type "function", none, .func (fn (tp 39) "_law_kinds" "_law_kinds" (Value.none) (Value.none) (Value.none) (Value.str (Str.ofString "law_ringseat_k10_a_house") 531) (none) (Value.ref 308) (Value.none)), #[]⟩) ::
  (nat_lit 310, ⟨Value.type "tuple", none, Data.seq #[], #[]⟩) ::
  (nat_lit 313, ⟨Value.type "code", none, Data.fields #[Value.str (Str.ofString "_law_only") 588, Value.str (Str.ofString "_law_only") 589, Value.str (Str.ofString "/claim/cut.py") 590, Value.int 180 0, Value.int 1 0, Value.int 0 0, Value.int 0 0, Value.int 3 0, Value.ref 310, Value.bool true, Value.int 181 0, Value.ref 311, Value.none, Value.none, Value.none, Value.ref 312, Value.int 591 0, Value.int 180 0, Value.str (Str.ofString "/claim/cut.py") 592], #[]⟩) ::
  (nat_lit 314, ⟨Value.type "function", none, .func (fn (tp 40) "_law_only" "_law_only" (Value.none) (Value.none) (Value.none) (Value.str (Str.ofString "law_ringseat_k10_a_house") 531) (none) (Value.ref 313) (Value.none)), #[]⟩) ::
  (nat_lit 315, ⟨Value.type "tuple", none, Data.seq #[], #[]⟩) ::
  (nat_lit 317, ⟨Value.type "tuple", none, Data.seq #[Value.str (Str.ofString "_law_size_here") 597, Value.str (Str.ofString "_law_e") 598], #[]⟩) ::
  (nat_lit 318, ⟨Value.type "tuple", none, Data.seq #[], #[]⟩) ::
  (nat_lit 320, ⟨Value.type "code", none, Data.fields #[Value.str (Str.ofString "_law_made") 594, Value.str (Str.ofString "_law_made") 595, Value.str (Str.ofString "/claim/cut.py") 596, Value.int 182 0, Value.int 1 0, Value.int 0 0, Value.int 0 0, Value.int 3 0, Value.ref 315, Value.bool true, Value.int 181 0, Value.ref 316, Value.none, Value.ref 317, Value.ref 318, Value.ref 319, Value.int 599 0, Value.int 182 0, Value.str (Str.ofString "/claim/cut.py") 600], #[]⟩) ::
  (nat_lit 321, ⟨Value.type "function", none, .func (fn (tp 41) "_law_made" "_law_made" (Value.none) (Value.none) (Value.none) (Value.str (Str.ofString "law_ringseat_k10_a_house") 531) (none) (Value.ref 320) (Value.none)), #[]⟩) ::
  (nat_lit 322, ⟨Value.type "tuple", none, Data.seq #[], #[]⟩) ::
  (nat_lit 324, ⟨Value.type "tuple", none, Data.seq #[Value.str (Str.ofString "_law_house_here") 605, Value.str (Str.ofString "_law_guest") 606, Value.str (Str.ofString "_law_e") 607], #[]⟩) ::
  (nat_lit 325, ⟨Value.type "tuple", none, Data.seq #[], #[]⟩) ::
  (nat_lit 327, ⟨Value.type "code", none, Data.fields #[Value.str (Str.ofString "_law_comes") 602, Value.str (Str.ofString "_law_comes") 603, Value.str (Str.ofString "/claim/cut.py") 604, Value.int 188 0, Value.int 2 0, Value.int 0 0, Value.int 0 0, Value.int 3 0, Value.ref 322, Value.bool true, Value.int 181 0, Value.ref 323, Value.none, Value.ref 324, Value.ref 325, Value.ref 326, Value.int 608 0, Value.int 188 0, Value.str (Str.ofString "/claim/cut.py") 609], #[]⟩) ::
  (nat_lit 328, ⟨Value.type "function", none, .func (fn (tp 42) "_law_comes" "_law_comes" (Value.none) (Value.none) (Value.none) (Value.str (Str.ofString "law_ringseat_k10_a_house") 531) (none) (Value.ref 327) (Value.none)), #[]⟩) ::
  (nat_lit 329, ⟨Value.type "tuple", none, Data.seq #[], #[]⟩) ::
  (nat_lit 331, ⟨Value.type "tuple", none, Data.seq #[Value.str (Str.ofString "_law_house_here") 614, Value.str (Str.ofString "_law_guest") 615, Value.str (Str.ofString "_law_e") 616], #[]⟩) ::
  (nat_lit 332, ⟨Value.type "tuple", none, Data.seq #[], #[]⟩) ::
  (nat_lit 334, ⟨Value.type "code", none, Data.fields #[Value.str (Str.ofString "_law_goes") 611, Value.str (Str.ofString "_law_goes") 612, Value.str (Str.ofString "/claim/cut.py") 613, Value.int 194 0, Value.int 2 0, Value.int 0 0, Value.int 0 0, Value.int 3 0, Value.ref 329, Value.bool true, Value.int 181 0, Value.ref 330, Value.none, Value.ref 331, Value.ref 332, Value.ref 333, Value.int 617 0, Value.int 194 0, Value.str (Str.ofString "/claim/cut.py") 618], #[]⟩) ::
  (nat_lit 335, ⟨Value.type "function", none, .func (fn (tp 43) "_law_goes" "_law_goes" (Value.none) (Value.none) (Value.none) (Value.str (Str.ofString "law_ringseat_k10_a_house") 531) (none) (Value.ref 334) (Value.none)), #[]⟩) ::
  (nat_lit 336, ⟨Value.type "tuple", none, Data.seq #[], #[]⟩) ::
  (nat_lit 338, ⟨Value.type "tuple", none, Data.seq #[Value.str (Str.ofString "_law_house_here") 623, Value.str (Str.ofString "_law_guest") 624, Value.str (Str.ofString "_law_e") 625], #[]⟩) ::
  (nat_lit 339, ⟨Value.type "tuple", none, Data.seq #[], #[]⟩) ::
  (nat_lit 341, ⟨Value.type "code", none, Data.fields #[Value.str (Str.ofString "_law_looked_for") 620, Value.str (Str.ofString "_law_looked_for") 621, Value.str (Str.ofString "/claim/cut.py") 622, Value.int 200 0, Value.int 2 0, Value.int 0 0, Value.int 0 0, Value.int 3 0, Value.ref 336, Value.bool true, Value.int 181 0, Value.ref 337, Value.none, Value.ref 338, Value.ref 339, Value.ref 340, Value.int 626 0, Value.int 200 0, Value.str (Str.ofString "/claim/cut.py") 627], #[]⟩) ::
  (nat_lit 342, ⟨Value.type "function", none, .func (fn (tp 44) "_law_looked_for" "_law_looked_for" (Value.none) (Value.none) (Value.none) (Value.str (Str.ofString "law_ringseat_k10_a_house") 531) (none) (Value.ref 341) (Value.none)), #[]⟩) ::
  (nat_lit 343, ⟨Value.type "tuple", none, Data.seq #[], #[]⟩) ::
  (nat_lit 345, ⟨Value.type "tuple", none, Data.seq #[Value.str (Str.ofString "_law_house_here") 632, Value.str (Str.ofString "_law_guest") 633, Value.str (Str.ofString "_law_at") 634, Value.str (Str.ofString "_law_seats") 635], #[]⟩) ::
  (nat_lit 346, ⟨Value.type "tuple", none, Data.seq #[], #[]⟩) ::
  (nat_lit 348, ⟨Value.type "code", none, Data.fields #[Value.str (Str.ofString "_law_sits") 629, Value.str (Str.ofString "_law_sits") 630, Value.str (Str.ofString "/claim/cut.py") 631, Value.int 206 0, Value.int 2 0, Value.int 0 0, Value.int 0 0, Value.int 3 0, Value.ref 343, Value.bool true, Value.int 181 0, Value.ref 344, Value.none, Value.ref 345, Value.ref 346, Value.ref 347, Value.int 636 0, Value.int 206 0, Value.str (Str.ofString "/claim/cut.py") 637], #[]⟩) ::
  (nat_lit 349, ⟨Value.type "function", none, .func (fn (tp 45) "_law_sits" "_law_sits" (Value.none) (Value.none) (Value.none) (Value.str (Str.ofString "law_ringseat_k10_a_house") 531) (none) (Value.ref 348) (Value.none)), #[]⟩) ::
  (nat_lit 350, ⟨Value.type "tuple", none, Data.seq #[], #[]⟩) ::
  (nat_lit 352, ⟨Value.type "tuple", none, Data.seq #[Value.str (Str.ofString "_law_house_here") 642, Value.str (Str.ofString "_law_guests") 643, Value.str (Str.ofString "_law_many") 644, Value.str (Str.ofString "_law_found") 645, Value.str (Str.ofString "_law_guest") 646], #[]⟩) ::
  (nat_lit 353, ⟨Value.type "tuple", none, Data.seq #[], #[]⟩) ::
  (nat_lit 355, ⟨Value.type "code", none, Data.fields #[Value.str (Str.ofString "_law_there") 639, Value.str (Str.ofString "_law_there") 640, Value.str (Str.ofString "/claim/cut.py") 641, Value.int 210 0, Value.int 2 0, Value.int 0 0, Value.int 0 0, Value.int 3 0, Value.ref 350, Value.bool true, Value.int 181 0, Value.ref 351, Value.none, Value.ref 352, Value.ref 353, Value.ref 354, Value.int 647 0, Value.int 210 0, Value.str (Str.ofString "/claim/cut.py") 648], #[]⟩) ::
  (nat_lit 356, ⟨Value.type "function", none, .func (fn (tp 46) "_law_there" "_law_there" (Value.none) (Value.none) (Value.none) (Value.str (Str.ofString "law_ringseat_k10_a_house") 531) (none) (Value.ref 355) (Value.none)), #[]⟩) ::
  (nat_lit 357, ⟨Value.type "tuple", none, Data.seq #[], #[]⟩) ::
  (nat_lit 359, ⟨Value.type "tuple", none, Data.seq #[Value.str (Str.ofString "_law_house_here") 653, Value.str (Str.ofString "_law_thing") 654, Value.str (Str.ofString "_law_due") 655], #[]⟩) ::
  (nat_lit 360, ⟨Value.type "tuple", none, Data.seq #[], #[]⟩) ::
  (nat_lit 362, ⟨Value.type "code", none, Data.fields #[Value.str (Str.ofString "_law_no_guest") 650, Value.str (Str.ofString "_law_no_guest") 651, Value.str (Str.ofString "/claim/cut.py") 652, Value.int 219 0, Value.int 2 0, Value.int 0 0, Value.int 0 0, Value.int 3 0, Value.ref 357, Value.bool true, Value.int 181 0, Value.ref 358, Value.none, Value.ref 359, Value.ref 360, Value.ref 361, Value.int 656 0, Value.int 219 0, Value.str (Str.ofString "/claim/cut.py") 657], #[]⟩) ::
  (nat_lit 363, ⟨Value.type "function", none, .func (fn (tp 47) "_law_no_guest" "_law_no_guest" (Value.none) (Value.none) (Value.none) (Value.str (Str.ofString "law_ringseat_k10_a_house") 531) (none) (Value.ref 362) (Value.none)), #[]⟩) ::
  (nat_lit 364, ⟨Value.type "tuple", none, Data.seq #[], #[]⟩) ::
  (nat_lit 366, ⟨Value.type "tuple", none, Data.seq #[Value.str (Str.ofString "_law_cell") 662], #[]⟩) ::
  (nat_lit 367, ⟨Value.type "tuple", none, Data.seq #[], #[]⟩) ::
  (nat_lit 369, ⟨Value.type "code", none, Data.fields #[Value.str (Str.ofString "_law_most") 659, Value.str (Str.ofString "_law_most") 660, Value.str (Str.ofString "/claim/cut.py") 661, Value.int 222 0, Value.int 1 0, Value.int 0 0, Value.int 0 0, Value.int 3 0, Value.ref 364, Value.bool true, Value.int 181 0, Value.ref 365, Value.none, Value.ref 366, Value.ref 367, Value.ref 368, Value.int 663 0, Value.int 222 0, Value.str (Str.ofString "/claim/cut.py") 664], #[]⟩) ::
  (nat_lit 370, ⟨Value.type "function", none, .func (fn (tp 48) "_law_most" "_law_most" (Value.none) (Value.none) (Value.none) (Value.str (Str.ofString "law_ringseat_k10_a_house") 531) (none) (Value.ref 369) (Value.none)), #[]⟩) ::
  (nat_lit 371, ⟨Value.type "tuple", none, Data.seq #[], #[]⟩) ::
  (nat_lit 374, ⟨Value.type "code", none, Data.fields #[Value.str (Str.ofString "_law_all") 666, Value.str (Str.ofString "_law_all") 667, Value.str (Str.ofString "/claim/cut.py") 668, Value.int 230 0, Value.int 3 0, Value.int 0 0, Value.int 0 0, Value.int 3 0, Value.ref 371, Value.bool true, Value.int 181 0, Value.ref 372, Value.none, Value.none, Value.none, Value.ref 373, Value.int 669 0, Value.int 230 0, Value.str (Str.ofString "/claim/cut.py") 670], #[]⟩) ::
  (nat_lit 375, ⟨Value.type "function", none, .func (fn (tp 49) "_law_all" "_law_all" (Value.none) (Value.none) (Value.none) (Value.str (Str.ofString "law_ringseat_k10_a_house") 531) (none) (Value.ref 374) (Value.none)), #[]⟩) ::
  (nat_lit 376, ⟨Value.type "tuple", none, Data.seq #[], #[]⟩) ::
  (nat_lit 378, ⟨Value.type "tuple", none, Data.seq #[Value.str (Str.ofString "_law_cell") 675, Value.str (Str.ofString "_law_limit") 676], #[]⟩) ::
  (nat_lit 379, ⟨Value.type "tuple", none, Data.seq #[], #[]⟩) ::
  (nat_lit 381, ⟨Value.type "code", none, Data.fields #[Value.str (Str.ofString "_law_house") 672, Value.str (Str.ofString "_law_house") 673, Value.str (Str.ofString "/claim/cut.py") 674, Value.int 240 0, Value.int 2 0, Value.int 0 0, Value.int 0 0, Value.int 3 0, Value.ref 376, Value.bool true, Value.int 181 0, Value.ref 377, Value.none, Value.ref 378, Value.ref 379, Value.ref 380, Value.int 677 0, Value.int 240 0, Value.str (Str.ofString "/claim/cut.py") 678], #[]⟩) ::
  (nat_lit 382, ⟨Value.type "function", none, .func (fn (tp 50) "_law_house" "_law_house" (Value.none) (Value.none) (Value.none) (Value.str (Str.ofString "law_ringseat_k10_a_house") 531) (none) (Value.ref 381) (Value.none)), #[]⟩) ::
  (nat_lit 383, ⟨Value.type "tuple", none, Data.seq #[], #[]⟩) ::
  (nat_lit 386, ⟨Value.type "code", none, Data.fields #[Value.str (Str.ofString "law") 680, Value.str (Str.ofString "law") 681, Value.str (Str.ofString "/claim/cut.py") 682, Value.int 246 0, Value.int 1 0, Value.int 0 0, Value.int 0 0, Value.int 3 0, Value.ref 383, Value.bool true, Value.int 181 0, Value.ref 384, Value.none, Value.none, Value.none, Value.ref 385, Value.int 683 0, Value.int 246 0, Value.str (Str.ofString "/claim/cut.py") 684], #[]⟩) ::
  (nat_lit 387, ⟨Value.type "function", none, .func (fn (tp 51) "law" "law" (Value.none) (Value.none) (Value.none) (Value.str (Str.ofString "law_ringseat_k10_a_house") 531) (none) (Value.ref 386) (Value.none)), #[]⟩) :: []
def as : List Addr := 2 :: 3 :: 15 :: 22 :: 23 :: 24 :: 25 :: 28 :: 35 :: 36 :: 37 :: 40 :: 47 :: 48 :: 49 :: 52 :: 59 :: 60 :: 61 :: 64 :: 71 :: 72 :: 73 :: 76 :: 83 :: 84 :: 85 :: 88 :: 89 :: 91 :: 92 :: 94 :: 95 :: 96 :: 98 :: 99 :: 101 :: 102 :: 103 :: 105 :: 106 :: 108 :: 109 :: 110 :: 112 :: 113 :: 115 :: 116 :: 117 :: 119 :: 120 :: 122 :: 123 :: 124 :: 126 :: 127 :: 129 :: 130 :: 131 :: 133 :: 134 :: 136 :: 137 :: 138 :: 140 :: 141 :: 143 :: 144 :: 145 :: 147 :: 148 :: 150 :: 151 :: 152 :: 154 :: 155 :: 157 :: 158 :: 159 :: 161 :: 162 :: 164 :: 165 :: 166 :: 168 :: 169 :: 171 :: 172 :: 173 :: 175 :: 176 :: 178 :: 179 :: 180 :: 182 :: 183 :: 185 :: 186 :: 187 :: 190 :: 191 :: 192 :: 194 :: 195 :: 197 :: 198 :: 206 :: 207 :: 209 :: 210 :: 212 :: 213 :: 214 :: 216 :: 217 :: 219 :: 220 :: 221 :: 223 :: 224 :: 226 :: 227 :: 228 :: 230 :: 231 :: 233 :: 234 :: 235 :: 237 :: 238 :: 240 :: 241 :: 242 :: 244 :: 245 :: 247 :: 248 :: 249 :: 251 :: 252 :: 254 :: 255 :: 256 :: 257 :: 258 :: 259 :: 260 :: 263 :: 265 :: 266 :: 268 :: 269 :: 270 :: 272 :: 273 :: 275 :: 276 :: 277 :: 279 :: 280 :: 282 :: 283 :: 284 :: 287 :: 288 :: 289 :: 291 :: 292 :: 294 :: 295 :: 296 :: 298 :: 299 :: 301 :: 302 :: 303 :: 305 :: 306 :: 308 :: 309 :: 310 :: 313 :: 314 :: 315 :: 317 :: 318 :: 320 :: 321 :: 322 :: 324 :: 325 :: 327 :: 328 :: 329 :: 331 :: 332 :: 334 :: 335 :: 336 :: 338 :: 339 :: 341 :: 342 :: 343 :: 345 :: 346 :: 348 :: 349 :: 350 :: 352 :: 353 :: 355 :: 356 :: 357 :: 359 :: 360 :: 362 :: 363 :: 364 :: 366 :: 367 :: 369 :: 370 :: 371 :: 374 :: 375 :: 376 :: 378 :: 379 :: 381 :: 382 :: 383 :: 386 :: 387 :: []
theorem as_of (P : Params) : as = (K P).map (·.1) := by kernel_rfl
def Q : Program := { PySem.Challenge.pw_ringseat_k10_a_house with main := { PySem.Challenge.pw_ringseat_k10_a_house.main with body := [tp 1, tp 2, tp 3, tp 4, tp 5, tp 6, tp 8, tp 9, tp 10, tp 11, tp 12, tp 13, tp 14, tp 15, tp 16, tp 18, tp 19, tp 20, tp 22, tp 23, tp 24, tp 25, tp 26, tp 28, tp 29, tp 30, tp 31, tp 33, tp 34, tp 35, tp 36, tp 37, tp 38, tp 39, tp 40, tp 41, tp 42, tp 43, tp 44, tp 45, tp 46, tp 47, tp 48, tp 49, tp 50, tp 51] } }
abbrev R : RowW := PySem.Challenge.rw_ringseat_k10_a_house.row.toRowW
abbrev pE : Program := PySem.Challenge.rw_ringseat_k10_a_house.row.prog
def Xt (s : Shared) : Bool := xlAt Q [] s && recOk R.records s
def Yf (s : Shared) : List (Option Obj) := as.map s.heap.get?
def Ya (w : World) : List (Option Obj) := (K w.params).map fun p => some p.2
def st (w : World) (os : OsState) : Shared := ⟨boot_heap w.params, Array.mk [], boot_drawn, boot_toks, os⟩
def topRunT (p : Program) (w : World) (m : Nat) (ann : Option Value) : Nat → SharedT → Thread → Option SharedT
  | 0, _, _ => none
  | k + 1, x, y => match through y with
    | true => some x
    | false => match stepOk m ann y with
      | false => none
      | true => match stepT (denote treeTable) p w x y with
        | some z => topRunT p w m ann k z.1 z.2
        | none => none
theorem topRun_of {p : Program} {w : World} {m : Nat} {ann : Option Value} : ∀ {n : Nat} {s s' : SharedT} {t : Thread}, topRunT p w m ann n s t = some s' → topRun treeTable p w m ann n s.abs t = some s'.abs
  | 0, _, _, _, h => by cases h
  | n + 1, s, s', t, h => by
    unfold topRunT at h
    unfold topRun
    cases a : through t with
    | true => rw [a] at h; cases h; rfl
    | false =>
      rw [a] at h
      cases b : stepOk m ann t with
      | false => rw [b] at h; cases h
      | true =>
        rw [b] at h
        cases c : stepT (denote treeTable) p w s t with
        | none => rw [c] at h; cases h
        | some x => obtain ⟨s₂, t₂⟩ := x; rw [c] at h; rw [stepT_spec c]; exact topRun_of h
def grow : List Obj → BT → Nat → BT
  | [], t, _ => t
  | o :: l, t, n => grow l (t.ins n o) (n + 1)
def bt (P : Params) : BT := grow (boot_heap P).objs.toList .nil 0
def m0 (P : Params) : Nat := (boot_heap P).objs.size
theorem bt_abs (P : Params) : absHeap (bt P) (m0 P) (boot_heap P).life = boot_heap P := by kernel_rfl
def an (P : Params) : Option Value := (boot_heap P).nsMap mainGlobals "__annotations__"
def stT (w : World) (os : OsState) : SharedT := ⟨bt w.params, m0 w.params, (boot_heap w.params).life, Array.mk [], boot_drawn, boot_toks, os⟩
theorem stT_abs (w : World) (os : OsState) : (stT w os).abs = st w os := by
  show Shared.mk (absHeap (bt w.params) (m0 w.params) (boot_heap w.params).life) _ _ _ _ = Shared.mk (boot_heap w.params) _ _ _ _
  rw [bt_abs]; rfl
def fin (w : World) (os : OsState) : Option SharedT := topRunT pE w (m0 w.params) (an w.params) 5770 (stT w os) (topStub pE)
def ok (w : World) (s : Shared) : Bool := staticsOk (importedModules pE.main.body) (boot_heap w.params) s.heap && namesBound pE s.heap && gensDone s && laidKept (boot_heap w.params) s.heap
def see (s : Shared) := openSeen Q [] (importedModules pE.main.body) Xt true s
theorem run0 (w : World) : ((boot_heap w.params).isNs mainGlobals && (Array.mk ([] : List GenState)).size == 0) = true := by kernel_rfl
theorem run1 (w : World) (os : OsState) : (fin w os).map (fun s => (ok w s.abs, Yf s.abs)) = some (true, Ya w) := by kernel_rfl
theorem run2 (w : World) (os : OsState) : (fin w os).map (fun s => (see s.abs).1) = some (openGood Q []).1 := by kernel_rfl
theorem run3 (w : World) (os : OsState) : (fin w os).map (fun s => (see s.abs).2.1) = some (openGood Q []).2.1 := by kernel_rfl
theorem run4 (w : World) (os : OsState) : (fin w os).map (fun s => ((see s.abs).2.2.1, (see s.abs).2.2.2.1)) = some ((openGood Q []).2.2.1, (openGood Q []).2.2.2.1) := by kernel_rfl
theorem run5 (w : World) (os : OsState) : (fin w os).map (fun s => (see s.abs).2.2.2.2) = some (openGood Q []).2.2.2.2 := by kernel_rfl
theorem started (w : World) : ∃ os, fencedOpening treeTable pE w 5770 = some (st w os) := by
  have h := boot_open (p := pE) (N := 5770) (by kernel_rfl) (by decide) (fun s => by kernel_rfl) w
  obtain ⟨⟨a, b, c, d, os⟩, e, e'⟩ := Option.map_eq_some_iff.mp h
  obtain ⟨rfl, rfl, rfl, rfl⟩ : a = boot_heap w.params ∧ b = Array.mk [] ∧ c = boot_drawn ∧ d = boot_toks := by simpa only [Prod.mk.injEq] using e'
  exact ⟨os, e⟩
theorem fin_top {w : World} {os : OsState} {s : SharedT} (a : fin w os = some s) (b : ok w s.abs = true) : topFrom treeTable pE w 5770 (st w os) = some s.abs := by
  have r := topRun_of a
  rw [stT_abs] at r
  unfold ok at b
  unfold topFrom
  show (match (boot_heap w.params).isNs mainGlobals && (Array.mk ([] : List GenState)).size == 0 with | true => _ | false => _) = _
  rw [run0]
  show (topRun treeTable pE w (m0 w.params) (an w.params) 5770 (st w os) (topStub pE)).bind _ = _
  rw [r]
  show (match staticsOk (importedModules pE.main.body) (boot_heap w.params) s.abs.heap && namesBound pE s.abs.heap && gensDone s.abs && laidKept (boot_heap w.params) s.abs.heap with | true => _ | false => _) = _
  rw [b]
theorem left : LeftO pE Q [] Xt Yf Ya 5770 := fun w => by
  obtain ⟨os, e⟩ := started w
  obtain ⟨s, a, b⟩ := Option.map_eq_some_iff.mp (run1 w os)
  have c2 := run2 w os
  have c3 := run3 w os
  have c4 := run4 w os
  have c5 := run5 w os
  rw [a] at c2 c3 c4 c5
  have c2 := Option.some.inj c2
  have c3 := Option.some.inj c3
  have c4 := Option.some.inj c4
  have c5 := Option.some.inj c5
  obtain ⟨b0, d⟩ : _ ∧ _ := by simpa only [Prod.mk.injEq] using b
  obtain ⟨c6, c7⟩ : _ ∧ _ := by simpa only [Prod.mk.injEq] using c4
  have z : see s.abs = openGood Q [] := Prod.ext c2 (Prod.ext c3 (Prod.ext c6 (Prod.ext c7 c5)))
  have o : openEnds treeTable pE w 5770 = some s.abs := by
    unfold openEnds
    rw [e]
    exact fin_top a b0
  rw [o]
  exact congrArg some (Prod.ext z d)
end
end Hd
set_option Elab.async false
set_option linter.all false
set_option maxRecDepth 100000
namespace L2
open PySem PySem.Spec PyProof.Rows
abbrev Key := Sum Int Str
def keyIs : Key → Value → Bool
  | .inl k, v => Value.isInt k v
  | .inr x, v => Value.isStrOf x v
def keyH (w : World) : Key → Int
  | .inl k => hashInt k
  | .inr x => hashStr w x
theorem keyIs_shape : ∀ {k : Key} {v : Value}, keyIs k v = true → (∃ i t, k = Sum.inl i ∧ v = Value.int i t) ∨ (∃ x t, k = Sum.inr x ∧ v = Value.str x t)
  | .inl i, v, h => by
    obtain ⟨t, e⟩ := Value.isInt_shape (k := i) (v := v) h
    exact .inl ⟨i, t, rfl, e⟩
  | .inr x, v, h => by
    obtain ⟨t, e⟩ := Value.isStrOf_shape (x := x) (v := v) h
    exact .inr ⟨x, t, rfl, e⟩
theorem key_ll (a b : Int) : decide ((Sum.inl a : Key) = Sum.inl b) = (a == b) := by
  by_cases e : a = b
  · subst e; simp
  · have h : ¬ (Sum.inl a : Key) = Sum.inl b := fun q => e (Sum.inl.inj q)
    rw [decide_eq_false h]
    exact (beq_eq_false_iff_ne.mpr e).symm
theorem key_rr (a b : Str) : decide ((Sum.inr a : Key) = Sum.inr b) = decide (a = b) := by
  by_cases e : a = b
  · subst e; simp
  · have h : ¬ (Sum.inr a : Key) = Sum.inr b := fun q => e (Sum.inr.inj q)
    rw [decide_eq_false h, decide_eq_false e]
theorem key_lr (a : Int) (b : Str) : decide ((Sum.inl a : Key) = Sum.inr b) = false := decide_eq_false (fun q => nomatch q)
theorem key_rl (a : Str) (b : Int) : decide ((Sum.inr a : Key) = Sum.inl b) = false := decide_eq_false (fun q => nomatch q)
def mixKind (prog : Program) (w : World) : PySem.KeyKind prog w Key where
  is := keyIs
  hash := keyH w
  inj := fun v a b ha hb => by
    rcases keyIs_shape ha with ⟨i, t, rfl, rfl⟩ | ⟨x, t, rfl, rfl⟩
    · rcases keyIs_shape hb with ⟨j, u, rfl, e⟩ | ⟨y, u, rfl, e⟩
      · injection e with e1 _; rw [e1]
      · exact nomatch e
    · rcases keyIs_shape hb with ⟨j, u, rfl, e⟩ | ⟨y, u, rfl, e⟩
      · exact nomatch e
      · injection e with e1 _; rw [e1]
  byValue := fun k v h => by
    rcases keyIs_shape h with ⟨i, t, rfl, rfl⟩ | ⟨x, t, rfl, rfl⟩ <;> rfl
  pyHash := fun hv h => by
    rcases keyIs_shape hv with ⟨i, t, rfl, rfl⟩ | ⟨x, t, rfl, rfl⟩
    · exact wpAny_pyHash_int h
    · exact wpAny_pyHash_str h
  eqBool := fun hu hv h => by
    rcases keyIs_shape hu with ⟨i, t, rfl, rfl⟩ | ⟨x, t, rfl, rfl⟩
    · rcases keyIs_shape hv with ⟨j, u, rfl, rfl⟩ | ⟨y, u, rfl, rfl⟩
      · rw [key_ll] at h; exact wpAny_eqBool_int h
      · rw [key_lr] at h; exact SeqAt.EqAt.int_str i t y u _ _ _ _ h
    · rcases keyIs_shape hv with ⟨j, u, rfl, rfl⟩ | ⟨y, u, rfl, rfl⟩
      · rw [key_rl] at h; exact SeqAt.EqAt.str_int x t j u _ _ _ _ h
      · rw [key_rr] at h; exact wpAny_eqBool_str h
  «strs» := fun k x t v h => by
    rcases keyIs_shape h with ⟨i, u, rfl, e⟩ | ⟨y, u, rfl, e⟩
    · exact nomatch e
    · injection e with e1 _
      subst e1
      cases v <;> rfl
end L2
namespace L2
open PySem PySem.Spec PyProof.Rows
inductive V where
  | non | bl (b : Bool) | int (i : Int) | str (x : Str) | byt (b : Array UInt8) | flt (b : UInt64) | ref (a : Addr) | ty (n : String)
  deriving DecidableEq
def RelV : V → Value → Prop
  | .non, u => u = Value.none
  | .bl b, u => u = Value.bool b
  | .int i, u => ∃ t, u = Value.int i t
  | .str x, u => ∃ t, u = Value.str x t
  | .byt b, u => ∃ t, u = Value.bytes b t
  | .flt b, u => ∃ t, u = Value.float b t
  | .ref a, u => u = Value.ref a
  | .ty n, u => u = Value.type n
abbrev Vals : List V → List Value → Prop := Paired RelV
theorem Vals.length {xs : List V} {us : List Value} (r : Vals xs us) : xs.length = us.length := Paired.length r
theorem Vals.get : ∀ {xs : List V} {us : List Value} {i : Nat} {x : V}, Vals xs us → xs[i]? = some x → ∃ u, us[i]? = some u ∧ RelV x u
  | _, _, _, _, .nil, e => by simp at e
  | _, _, 0, _, .cons r _, e => by simp at e; subst e; exact ⟨_, rfl, r⟩
  | _, _, i + 1, x, .cons _ t, e => by
    obtain ⟨u, h1, h2⟩ := Vals.get (i := i) (x := x) t (by simpa using e)
    exact ⟨u, by simpa using h1, h2⟩
theorem Vals.set {x : V} {u : Value} (r : RelV x u) : ∀ {xs : List V} {us : List Value} (i : Nat), Vals xs us → Vals (xs.set i x) (us.set i u)
  | _, _, _, .nil => .nil
  | _, _, 0, .cons _ t => .cons r t
  | _, _, i + 1, .cons q t => .cons q (Vals.set r i t)
theorem Vals.append : ∀ {xs ys : List V} {us ws : List Value}, Vals xs us → Vals ys ws → Vals (xs ++ ys) (us ++ ws)
  | _, _, _, _, .nil, s => s
  | _, _, _, _, .cons r t, s => .cons r (Vals.append t s)
def RelO : Option V → Option Value → Prop
  | some v, some u => RelV v u
  | none, none => True
  | _, _ => False
def KV {κ : Type} : List (κ × V) → List (κ × Value) → Prop := Paired fun (p : κ × V) (q : κ × Value) => p.1 = q.1 ∧ RelV p.2 q.2
def kV : Key → V
  | .inl i => .int i
  | .inr x => .str x
inductive HO where
  | lst (xs : List V)
  | tup (xs : List V)
  | dK (kvs : List (Key × V)) | dT (kvs : List (List Key × V))
  | set (S : Int → Bool) (n : Nat)
  | ins (C dx : Addr) (fs : List (Str × V))
  | own (x : Addr)
  | xd (fs : List (Str × V))
  | met (f x : Addr)
  | rng (lo hi : Int)
  | frz (o : Obj) (u : HO)
  | tbl (ps : Array Value)
  | ext (φ : Heap → Prop)
abbrev Hp := Addr → Option HO
def upd (H : Hp) (a : Addr) (o : HO) : Hp := fun b => if b = a then some o else H b
theorem upd_same {H : Hp} {a : Addr} {o : HO} : upd H a o a = some o := by unfold upd; rw [if_pos rfl]
theorem upd_ne {H : Hp} {a b : Addr} {o : HO} (h : b ≠ a) : upd H a o b = H b := by unfold upd; rw [if_neg h]
theorem upd_upd {H : Hp} {a : Addr} {o u : HO} : upd (upd H a o) a u = upd H a u := by
  funext b; unfold upd; split <;> rfl
theorem ne_of_none {H : Hp} {a b : Addr} {o : HO} (h : H a = some o) (h' : H b = none) : a ≠ b := by
  intro e; subst e; rw [h] at h'; cases h'
section
variable (P : Program) (w : World)
def ObjOk (H : Hp) (h : Heap) (a : Addr) : HO → Prop
  | .lst xs => xs.length ≤ sizeLine ∧ ∃ (its : List Value) (n : Nat), Vals xs its ∧ h.get? a = some { cls := .type "list", data := .seq its.toArray n }
  | .tup xs => xs.length ≤ sizeLine ∧ ∃ its : List Value, Vals xs its ∧ IsTup h a its.toArray
  | .dK kvs => kvs.length ≤ sizeLine ∧ (a == sysModules) = false ∧ ∃ vs, KV kvs vs ∧ h.DictOf (mixKind P w) a vs
  | .dT kvs => kvs.length ≤ sizeLine ∧ (a == sysModules) = false ∧ ∃ xs : List (List Key × Addr × Value),
      Paired (fun (p : List Key × V) (q : List Key × Addr × Value) => p.1 = q.1 ∧ H q.2.1 = some (.tup (p.1.map kV)) ∧ RelV p.2 q.2.2) kvs xs ∧
      ∃ o es ep, h.get? a = some o ∧ o.ExactDict ∧ o.data = .dict es ep ∧ es.toList = xs.map (entryOfKey (tupleKind (mixKind P w))) ∧ (xs.map (·.1)).Nodup
  | .set S n => h.SetOf (intKind P w) a S n
  | .ins C dx fs => H dx = some (.own a) ∧ fs.length ≤ 1000 ∧ dx ≠ a ∧ h.get? a = some (PySem.W.instObj C dx) ∧
      ∃ mA, h.Ns1 dx mA ∧ (∀ f, RelO (fs.lookup f) (mA f)) ∧ PySem.Within mA (fs.map (·.1))
  | .own _ => ∃ o, h.get? a = some o
  | .xd fs => ∃ mA, h.Ns1 a mA ∧ ∀ f, RelO (fs.lookup f) (mA f)
  | .rng lo hi => ∃ t u v, h.get? a = some { cls := .type "range", data := .fields #[.int lo t, .int hi u, .int 1 v] }
  | .frz o u => h.get? a = some o ∧ ObjOk H h a u
  | .tbl ps => h.get? a = some { cls := .none, data := .fields ps }
  | .met f x => h.get? a = some (PySem.W.methodObj (.ref f) (.ref x))
  | .ext φ => φ h ∧ (∃ o, h.get? a = some o) ∧ ∀ h1 h2 : Heap, φ h1 → (∀ o, h1.get? a = some o → h2.get? a = some o) → φ h2
def HOk (H : Hp) (h : Heap) : Prop := ∀ a o, H a = some o → ObjOk P w H h a o
end
section
variable {P : Program} {w : World} {H H' : Hp} {h h' : Heap} {a : Addr} {o : HO}
theorem ObjOk.lt (x : ObjOk P w H h a o) : a < h.objs.size := by
  cases o with
  | lst xs => obtain ⟨_, _, _, _, e⟩ := x; exact Heap.lt_size e
  | tup xs => obtain ⟨_, _, _, p⟩ := x; exact p.lt
  | dK kvs => obtain ⟨_, _, _, _, o, _, _, e, _⟩ := x; exact Heap.lt_size e
  | dT kvs => obtain ⟨_, _, _, _, o, _, _, e, _⟩ := x; exact Heap.lt_size e
  | set S n => obtain ⟨o, _, _, _, e, _⟩ := x; exact Heap.lt_size e
  | ins C dx fs => obtain ⟨_, _, _, e, _⟩ := x; exact Heap.lt_size e
  | own y => obtain ⟨_, e⟩ := x; exact Heap.lt_size e
  | xd fs => obtain ⟨_, ⟨_, _, _, e, _⟩, _⟩ := x; exact Heap.lt_size e
  | rng lo hi => obtain ⟨_, _, _, e⟩ := x; exact Heap.lt_size e
  | frz ob u => obtain ⟨e, _⟩ := x; exact Heap.lt_size e
  | tbl ps => exact Heap.lt_size (show h.get? a = some _ from x)
  | met f y => exact Heap.lt_size (show h.get? a = some _ from x)
  | ext φ => obtain ⟨_, ⟨_, e⟩, _⟩ := x; exact Heap.lt_size e
theorem Paired.mapP {α β : Type} {F G : α → β → Prop} : ∀ {l₁ : List α} {l₂ : List β}, Paired F l₁ l₂ → (∀ a b, F a b → G a b) → Paired G l₁ l₂
  | _, _, .nil, _ => .nil
  | _, _, .cons r t, f => .cons (f _ _ r) (Paired.mapP t f)
theorem ObjOk.stay (x : ObjOk P w H h a o) (k : ∀ b u, (b = a ∨ H b = some (.own a)) → h.get? b = some u → h'.get? b = some u)
    (ho : ∀ b, H b = some (.own a) → H' b = some (.own a)) (ht : ∀ b xs, H b = some (.tup xs) → H' b = some (.tup xs)) : ObjOk P w H' h' a o := by
  induction o with
  | lst xs => obtain ⟨z, its, n, r, e⟩ := x; exact ⟨z, its, n, r, k _ _ (.inl rfl) e⟩
  | tup xs => obtain ⟨z, its, r, ob, e, c⟩ := x; exact ⟨z, its, r, ob, k _ _ (.inl rfl) e, c⟩
  | dK kvs => obtain ⟨z, y, vs, r, ob, es, ep, e, c⟩ := x; exact ⟨z, y, vs, r, ob, es, ep, k _ _ (.inl rfl) e, c⟩
  | dT kvs =>
    obtain ⟨z, y, xs, r, ob, es, ep, e, c⟩ := x
    exact ⟨z, y, xs, Paired.mapP r fun p q z => ⟨z.1, ht _ _ z.2.1, z.2.2⟩, ob, es, ep, k _ _ (.inl rfl) e, c⟩
  | set S n => obtain ⟨ob, es, ep, t, e, c⟩ := x; exact ⟨ob, es, ep, t, k _ _ (.inl rfl) e, c⟩
  | ins C dx fs =>
    obtain ⟨d, z, ne, e, mA, ⟨od, es, ep, e2, c⟩, r⟩ := x
    exact ⟨ho _ d, z, ne, k _ _ (.inl rfl) e, mA, ⟨od, es, ep, k _ _ (.inr d) e2, c⟩, r⟩
  | own y => obtain ⟨ob, e⟩ := x; exact ⟨ob, k _ _ (.inl rfl) e⟩
  | xd fs => obtain ⟨mA, ⟨od, es, ep, e, c⟩, r⟩ := x; exact ⟨mA, ⟨od, es, ep, k _ _ (.inl rfl) e, c⟩, r⟩
  | rng lo hi => obtain ⟨t, u, v, e⟩ := x; exact ⟨t, u, v, k _ _ (.inl rfl) e⟩
  | frz ob u ih => obtain ⟨e, q⟩ := x; exact ⟨k _ _ (.inl rfl) e, ih q⟩
  | tbl ps =>
    have e : h.get? a = some { cls := .none, data := .fields ps } := x
    show h'.get? a = some { cls := .none, data := .fields ps }
    exact k a _ (.inl rfl) e
  | met f y =>
    have e : h.get? a = some (PySem.W.methodObj (.ref f) (.ref y)) := x
    show h'.get? a = some (PySem.W.methodObj (.ref f) (.ref y))
    exact k a _ (.inl rfl) e
  | ext φ => obtain ⟨p, ⟨o, e⟩, st⟩ := x; exact ⟨st _ _ p fun o q => k _ _ (.inl rfl) q, ⟨o, k _ _ (.inl rfl) e⟩, st⟩
theorem HOk.lt (x : HOk P w H h) (e : H a = some o) : a < h.objs.size := (x a o e).lt
theorem HOk.fresh (x : HOk P w H h) (e : h.objs.size ≤ a) : H a = none := by
  cases q : H a with
  | none => rfl
  | some u => exact absurd (Nat.lt_of_lt_of_le (x.lt q) e) (Nat.lt_irrefl _)
theorem HOk.kept (x : HOk P w H h) (k : ∀ b u, h.get? b = some u → h'.get? b = some u) : HOk P w H h' := fun a o e =>
  (x a o e).stay (fun b u _ q => k b u q) (fun _ q => q) fun _ _ q => q
theorem HOk.laid (x : HOk P w H h) (k : ∀ b u, h.get? b = some u → h'.get? b = some u) (hp : h.objs.size ≤ a) (new : ObjOk P w (upd H a o) h' a o) : HOk P w (upd H a o) h' := fun b u e => by
  have hn := x.fresh hp
  by_cases hb : b = a
  · subst hb; rw [upd_same] at e; cases e; exact new
  · rw [upd_ne hb] at e
    exact (x b u e).stay (fun c v _ q => k c v q) (fun c q => by rw [upd_ne (ne_of_none q hn)]; exact q) fun c xs q => by rw [upd_ne (ne_of_none q hn)]; exact q
end
def Rd (H : Hp) (a : Addr) (u : HO) : Prop := H a = some u ∨ ∃ o, H a = some (.frz o u)
theorem Rd.ok {P : Program} {w : World} {H : Hp} {h : Heap} {a : Addr} {u : HO} (r : Rd H a u) (x : HOk P w H h) : ObjOk P w H h a u := by
  rcases r with r | ⟨o, r⟩
  · exact x a u r
  · obtain ⟨_, q⟩ := x a _ r
    exact q
def Mut : Option HO → Prop
  | some (.lst _) => True
  | some (.dK _) => True
  | some (.dT _) => True
  | some (.set _ _) => True
  | some (.ins _ _ _) => True
  | some (.ext _) => True
  | _ => False
section
variable {P : Program} {w : World} {H : Hp} {h h' : Heap} {x e : Addr} {o' : HO}
theorem HOk.write (ok : HOk P w H h) (mu : Mut (H x)) (he : e = x ∨ H e = some (.own x)) (k : ∀ b u, b ≠ e → h.get? b = some u → h'.get? b = some u) (heo : ∃ u, h'.get? e = some u)
    (new : ObjOk P w (upd H x o') h' x o') : HOk P w (upd H x o') h' := fun b u q => by
  have nown : ∀ c y, H c = some (.own y) → c ≠ x := fun c y r z => by subst z; rw [r] at mu; exact mu
  have ntup : ∀ c xs, H c = some (.tup xs) → c ≠ x := fun c xs r z => by subst z; rw [r] at mu; exact mu
  by_cases hb : b = x
  · subst hb; rw [upd_same] at q; cases q; exact new
  · rw [upd_ne hb] at q
    by_cases hbe : b = e
    · have q' : H b = some (.own x) := by
        rcases he with z | z
        · exact absurd (hbe.trans z) hb
        · rw [hbe]; exact z
      rw [q] at q'; cases q'
      obtain ⟨v, hv⟩ := heo
      exact ⟨v, by rw [hbe]; exact hv⟩
    · refine (ok b u q).stay (fun c v hc r => k c v ?_ r) (fun c r => by rw [upd_ne (nown c b r)]; exact r) fun c xs r => by rw [upd_ne (ntup c xs r)]; exact r
      rcases hc with rfl | hc
      · exact hbe
      · rintro rfl
        rcases he with z | z
        · exact nown c b hc z
        · rw [hc] at z; cases z; exact hb rfl
end
structure Un (fs ex : List Addr) (H H' : Hp) (h h' : Heap) : Prop where
  keep : ∀ b o, h.get? b = some o → H b = none → b ∉ fs → b ∉ ex → h'.get? b = some o
  slot : ∀ b o, h.get? b = some o → H b = none → b ∈ fs → b ∉ ex → ∃ sl, h'.get? b = some { o with slots := sl }
  free : ∀ b o, h.get? b = some o → H b = none → b ∉ ex → H' b = none
  there : ∀ b o, h.get? b = some o → b ∉ ex → ∃ o', h'.get? b = some o'
  tups : ∀ b xs, H b = some (.tup xs) → H' b = some (.tup xs)
  frzs : ∀ b o u, H b = some (.frz o u) → H' b = some (.frz o u)
  tbls : ∀ b ps, H b = some (.tbl ps) → ∃ more, H' b = some (.tbl (ps ++ more))
section
variable {fs fs' ex ex' : List Addr} {H H1 H2 : Hp} {h h1 h2 h' : Heap} {a x e : Addr} {o : HO}
theorem Un.any (u : Un fs ex H H1 h h1) {b : Addr} {ob : Obj} (q : h.get? b = some ob) (n : H b = none) (hx : b ∉ ex) : ∃ sl, h1.get? b = some { ob with slots := sl } := by
  by_cases hb : b ∈ fs
  · exact u.slot b ob q n hb hx
  · exact ⟨ob.slots, u.keep b ob q n hb hx⟩
theorem Un.kept (k : ∀ b u, h.get? b = some u → h'.get? b = some u) : Un fs ex H H h h' :=
  ⟨fun b ob q _ _ _ => k b ob q, fun b ob q _ _ _ => ⟨ob.slots, k b ob q⟩, fun _ _ _ n _ => n, fun b ob q _ => ⟨ob, k b ob q⟩, fun _ _ q => q, fun _ _ _ q => q, fun _ ps q => ⟨#[], by rw [q]; simp⟩⟩
theorem Un.refl : Un fs ex H H h h := Un.kept fun _ _ q => q
theorem Un.laid (k : ∀ b u, h.get? b = some u → h'.get? b = some u) (hp : h.objs.size ≤ a) (hn : H a = none) : Un fs ex H (upd H a o) h h' where
  keep := fun b u q _ _ _ => k b u q
  slot := fun b u q _ _ _ => ⟨u.slots, k b u q⟩
  free := fun b u q n _ => by rw [upd_ne (Nat.ne_of_lt (Nat.lt_of_lt_of_le (Heap.lt_size q) hp))]; exact n
  there := fun b u q _ => ⟨u, k b u q⟩
  tups := fun b xs q => by rw [upd_ne (ne_of_none q hn)]; exact q
  frzs := fun b u xs q => by rw [upd_ne (ne_of_none q hn)]; exact q
  tbls := fun b ps q => ⟨#[], by rw [upd_ne (ne_of_none q hn), q]; simp⟩
theorem Un.write (mu : Mut (H x)) (he : e = x ∨ H e = some (.own x)) (k : ∀ b u, b ≠ e → h.get? b = some u → h'.get? b = some u) (heo : ∃ u, h'.get? e = some u) : Un fs ex H (upd H x o) h h' := by
  have hx : ∀ b, H b = none → b ≠ x := fun b n z => by subst z; rw [n] at mu; exact mu
  have hb : ∀ b, H b = none → b ≠ e := fun b n z => by
    subst z
    rcases he with r | r
    · exact hx b n r
    · rw [n] at r; cases r
  have hm : ∀ b u, H b = some u → ¬ Mut (some u) → b ≠ x := fun b u q nm z => by subst z; rw [q] at mu; exact nm mu
  refine ⟨fun b u q n _ _ => k b u (hb b n) q, fun b u q n _ _ => ⟨u.slots, k b u (hb b n) q⟩, fun b u q n _ => by rw [upd_ne (hx b n)]; exact n, fun b u q _ => ?_,
    fun b xs q => by rw [upd_ne (hm b _ q fun z => z)]; exact q, fun b u xs q => by rw [upd_ne (hm b _ q fun z => z)]; exact q, fun b ps q => ⟨#[], by rw [upd_ne (hm b _ q fun z => z), q]; simp⟩⟩
  by_cases hbe : b = e
  · subst hbe; exact heo
  · exact ⟨u, k b u hbe q⟩
end
def trk (h : Heap) (H : Hp) : List Addr := (List.range h.objs.size).filter fun a => (H a).isSome
def hidT (h : Heap) (H : Hp) : Heap := PySem.W.hideAll h (trk h H)
theorem hidT_size (h : Heap) (H : Hp) : (hidT h H).objs.size = h.objs.size := PySem.W.hideAll_size _ _
theorem hidT_get {h : Heap} {H : Hp} {b : Addr} {o : Obj} (e : h.get? b = some o) (n : H b = none) : (hidT h H).get? b = some o :=
  PySem.W.hideAll_get _ e fun hm => by
    have q : (H b).isSome = true := (List.mem_filter.mp hm).2
    rw [n] at q; simp at q
theorem of_hidT {h : Heap} {H : Hp} {b : Addr} {o : Obj} (e : (hidT h H).get? b = some o) : h.get? b = some o ∧ H b = none := by
  have e' : h.get? b = some o := PySem.W.of_hideAll (trk h H) e
  refine ⟨e', ?_⟩
  cases q : H b with
  | none => rfl
  | some x =>
    have hm : b ∈ trk h H := List.mem_filter.mpr ⟨List.mem_range.mpr (Heap.lt_size e'), by simp [q]⟩
    have z : (hidT h H).get? b = none := PySem.W.hideAll_none (trk h H) hm
    rw [z] at e; cases e
def allNews (g h : Heap) (L : Addr) : List (Addr × Obj) := (List.range h.objs.size).filterMap fun a => if a = L ∨ (g.get? a).isSome = true then none else (h.get? a).map fun o => (a, o)
def rest (g h : Heap) (L d : Addr) : List (Addr × Obj) := (allNews g h L).filter fun p => decide (p.1 ≠ d)
end L2
namespace L2
open PySem PySem.Spec PyProof.Rows
structure Mod (K : PySem.W.Frag) (mg : Str → Option Value) (base : Heap) : Prop where
  kin : K.In base
  glob : base.Ns mainGlobals mg
  blt : ∃ mb, base.Ns builtinsNs mb ∧ ∀ x : Str, x ≠ "__name__" → mb x = bootBuiltins x
  nolimit : base.NoLimit
structure Cx where
  prog : Program
  w : World
  K : PySem.W.Frag
  mg : Str → Option Value
  base : Heap
  A : Around
  N : List Str
  s₀ : Shared
  H₀ : Hp
  env : Env
  outer : List Env
  stack : List Env
  ex : List Addr
  fn : Str → Bool
  calm : Bool
  pn : List (Addr × Obj)
  xe : Value → Shared → Prop
def frs (l : List Env) : List Addr := l.filterMap (·.frame)
abbrev Cx.fs (X : Cx) : List Addr := frs X.outer
def Vis (sc : Scope) (x : Str) : Prop := sc.names.lookup x = some .local ∨ sc.names.lookup x = some .cell ∨ sc.names.lookup x = some .free
def Loc (sc : Scope) (x : Str) : Prop := sc.names.lookup x = some .local ∨ sc.names.lookup x = some .cell
def Look (env : Env) (h : Heap) (m : Str → Option Value) (x : Str) (u : Value) : Prop :=
  (env.kindOf x = some .local ∧ m x = some u) ∨ ((env.kindOf x = some .cell ∨ env.kindOf x = some .free) ∧ ∃ c, env.cells.lookup x = some c ∧ h.IsCell c (some u))
structure Cx.Ok (X : Cx) : Prop where
  mod : Mod X.K X.mg X.base
  kind : X.env.scope.kind = .function
  glob : X.env.globals = mainGlobals
  blt : X.env.builtins = builtinsNs
  above : X.s₀.heap.objs.size ≤ X.env.locals
  inj : ∀ x y c, X.env.cells.lookup x = some c → X.env.cells.lookup y = some c → x = y
  has : ∀ x, (X.env.kindOf x = some .cell ∨ X.env.kindOf x = some .free) → ∃ c, X.env.cells.lookup x = some c
  cab : ∀ x c, X.fn x = true → X.env.cells.lookup x = some c → X.s₀.heap.objs.size ≤ c
  hd : X.calm = true → X.A.handled = none
  frames : X.A.frames = some X.stack
  stk : X.stack = X.outer ∨ (X.stack = X.env :: X.outer ∧ X.env.frame = some X.env.locals)
  exf : ∀ b ∈ X.ex, b ≠ X.env.locals ∧ ∀ x c, X.env.cells.lookup x = some c → c ≠ b
  bs : ∀ b o, X.base.get? b = some o → X.s₀.heap.get? b = some o ∧ X.H₀ b = none
  bsz : X.base.objs.size ≤ X.s₀.heap.objs.size
  noex : ∀ b o, X.base.get? b = some o → b ∉ X.ex
  exfs : ∀ b ∈ X.ex, b ∉ X.fs
  funs : X.s₀.heap.FunFrames X.base X.outer
  frf : ∀ b ∈ X.fs, X.H₀ b = none
structure Inv (X : Cx) (pins : List (Addr × Obj)) (σ : List (Option V)) (H : Hp) (s : Shared) : Prop where
  ok : X.Ok
  os : s.os = X.s₀.os
  bare : AllBare s.gens
  base : Un X.fs X.ex X.H₀ H X.s₀.heap s.heap
  loc : ∃ m, s.heap.Ns X.env.locals m ∧ ∀ (i : Nat) (x : Str) (v : V), X.N[i]? = some x → σ[i]? = some (some v) → Vis X.env.scope x → ∃ u, RelV v u ∧ Look X.env s.heap m x u
  cell : ∀ x c, X.env.cells.lookup x = some c → ∃ v, s.heap.IsCell c v
  free : H X.env.locals = none
  freeC : ∀ x c, X.env.cells.lookup x = some c → H c = none
  pin : ∀ p ∈ X.pn ++ pins, s.heap.get? p.1 = some p.2 ∧ H p.1 = none ∧ p.1 ≠ X.env.locals ∧ p.1 ∉ X.fs ∧ ∀ v, p.2.data ≠ .cell v
  hok : HOk X.prog X.w H s.heap
  len : σ.length = X.N.length
section
variable {X : Cx} {pins : List (Addr × Obj)} {σ : List (Option V)} {H H' : Hp} {s : Shared} {h' : Heap}
theorem Cx.Ok.nofr (ok : X.Ok) {b : Addr} {o : Obj} (e : X.base.get? b = some o) : b ∉ X.fs := fun hb => by
  have := (ok.funs.mem hb).1
  rw [e] at this; cases this
theorem Inv.bs (I : Inv X pins σ H s) : ∀ b o, X.base.get? b = some o → s.heap.get? b = some o ∧ H b = none := fun b o e =>
  ⟨I.base.keep b o (I.ok.bs b o e).1 (I.ok.bs b o e).2 (I.ok.nofr e) (I.ok.noex b o e), I.base.free b o (I.ok.bs b o e).1 (I.ok.bs b o e).2 (I.ok.noex b o e)⟩
theorem Inv.bk (I : Inv X pins σ H s) : ∀ b o, X.base.get? b = some o → s.heap.get? b = some o := fun b o e => (I.bs b o e).1
theorem Inv.mod (I : Inv X pins σ H s) : Mod X.K X.mg X.base := I.ok.mod
theorem Inv.kIn (I : Inv X pins σ H s) : X.K.In s.heap := I.ok.mod.kin.keeps I.bk
theorem Inv.lt (I : Inv X pins σ H s) : X.env.locals < s.heap.objs.size := let ⟨_, hn, _⟩ := I.loc; hn.lt
theorem Inv.sz (I : Inv X pins σ H s) : X.s₀.heap.objs.size ≤ s.heap.objs.size := Nat.le_trans I.ok.above (Nat.le_of_lt I.lt)
theorem Inv.nofs (I : Inv X pins σ H s) {a : Addr} (h : s.heap.objs.size ≤ a) : a ∉ X.fs := fun hb => by
  obtain ⟨_, o, ho, _⟩ := I.ok.funs.mem hb
  exact absurd (Nat.lt_of_lt_of_le (Heap.lt_size ho) (Nat.le_trans I.sz h)) (Nat.lt_irrefl _)
theorem Inv.cne (I : Inv X pins σ H s) : ∀ x c, X.env.cells.lookup x = some c → c ≠ X.env.locals := fun x c e z => by
  obtain ⟨v, o, ho, hd⟩ := I.cell x c e
  obtain ⟨m, ⟨o', es, ep, ho', hd', _⟩, _⟩ := I.loc
  rw [z, ho'] at ho; cases ho; rw [hd'] at hd; cases hd
theorem Inv.funs (I : Inv X pins σ H s) : s.heap.FunFrames X.base X.outer := by
  have all : ∀ (l : List Env), (∀ b ∈ frs l, b ∈ X.fs) → X.s₀.heap.FunFrames X.base l → s.heap.FunFrames X.base l := by
    intro l
    induction l with
    | nil => intro _ _; trivial
    | cons env r ih =>
      intro hs hl
      obtain ⟨hk, ⟨L, o, hf, hn, ho, hd⟩, hr⟩ := hl
      have hL : L ∈ X.fs := hs L (by unfold frs; rw [List.filterMap_cons, hf]; exact List.mem_cons_self)
      obtain ⟨sl, e⟩ := I.base.slot L o ho (I.ok.frf L hL) hL fun z => I.ok.exfs L z hL
      exact ⟨hk, ⟨L, _, hf, hn, e, hd⟩, ih (fun b hb => hs b (by unfold frs; rw [List.filterMap_cons, hf]; exact List.mem_cons_of_mem _ hb)) hr⟩
  exact all X.outer (fun _ hb => hb) I.ok.funs
theorem Inv.stack (I : Inv X pins σ H s) : s.heap.FunFrames X.base X.stack := by
  rcases I.ok.stk with e | ⟨e, hf⟩
  · rw [e]; exact I.funs
  · rw [e]
    obtain ⟨m, hn, _⟩ := I.loc
    refine .cons (by rw [I.ok.kind]; decide) hf hn ?_ I.funs
    exact Heap.get?_none_of_le (Nat.le_trans I.ok.bsz I.ok.above)
theorem Inv.stkSub (I : Inv X pins σ H s) : ∀ b ∈ frs X.stack, b ∈ X.env.locals :: X.fs := fun b hb => by
  rcases I.ok.stk with e | ⟨e, hf⟩
  · rw [e] at hb; exact List.mem_cons_of_mem _ hb
  · rw [e] at hb
    unfold frs at hb
    rw [List.filterMap_cons, hf] at hb
    exact hb
theorem Inv.stkFree (I : Inv X pins σ H s) : ∀ b ∈ frs X.stack, H b = none := fun b hb => by
  rcases List.mem_cons.mp (I.stkSub b hb) with e | hb
  · rw [e]; exact I.free
  · obtain ⟨_, o, ho, _⟩ := I.ok.funs.mem hb
    exact I.base.free b o ho (I.ok.frf b hb) fun z => I.ok.exfs b z hb
theorem Inv.step {g' : Array GenState} {t' : Nat} {d' : Drawn} {ch : List Addr} (I : Inv X pins σ H s)
    (hch : ∀ b ∈ ch, (b ∈ X.ex ∨ X.s₀.heap.objs.size ≤ b) ∧ b ≠ X.env.locals ∧ (∀ x c, X.env.cells.lookup x = some c → c ≠ b) ∧ ∀ p ∈ X.pn ++ pins, p.1 ≠ b)
    (keep : ∀ b o, b ≠ X.env.locals → b ∉ X.fs → b ∉ ch → s.heap.get? b = some o → H b = none → h'.get? b = some o)
    (slot : ∀ b o, b ≠ X.env.locals → b ∈ X.fs → b ∉ ch → s.heap.get? b = some o → H b = none → ∃ sl, h'.get? b = some { o with slots := sl }) (free : ∀ b o, b ∉ ch → s.heap.get? b = some o → H b = none → H' b = none)
    (there : ∀ b o, b ∉ ch → s.heap.get? b = some o → ∃ o', h'.get? b = some o')
    (tups : ∀ b xs, H b = some (.tup xs) → H' b = some (.tup xs)) (frzs : ∀ b o u, H b = some (.frz o u) → H' b = some (.frz o u)) (tbls : ∀ b ps, H b = some (.tbl ps) → ∃ more, H' b = some (.tbl (ps ++ more)))
    (ns : ∀ m, s.heap.Ns X.env.locals m → h'.Ns X.env.locals m) (hok : HOk X.prog X.w H' h') (hg : AllBare g') :
    Inv X pins σ H' { s with heap := h', gens := g', drawn := d', toks := t' } := by
  have neL : ∀ b o, X.s₀.heap.get? b = some o → b ≠ X.env.locals := fun b o e => Nat.ne_of_lt (Nat.lt_of_lt_of_le (Heap.lt_size e) I.ok.above)
  have neC : ∀ b o, X.s₀.heap.get? b = some o → b ∉ X.ex → b ∉ ch := fun b o e hx hb => by
    rcases (hch b hb).1 with z | z
    · exact hx z
    · exact absurd (Nat.lt_of_lt_of_le (Heap.lt_size e) z) (Nat.lt_irrefl _)
  have cellK : ∀ x c, X.env.cells.lookup x = some c → ∀ v, s.heap.IsCell c v → h'.IsCell c v := fun x c e v ⟨o, ho, hd⟩ => by
    have nch : c ∉ ch := fun z => (hch c z).2.2.1 x c e rfl
    by_cases hc : c ∈ X.fs
    · obtain ⟨sl, q⟩ := slot c o (I.cne x c e) hc nch ho (I.freeC x c e)
      exact ⟨_, q, hd⟩
    · exact ⟨o, keep c o (I.cne x c e) hc nch ho (I.freeC x c e), hd⟩
  refine ⟨I.ok, I.os, hg, ⟨fun b o e n hb hx => ?_, fun b o e n hb hx => ?_, fun b o e n hx => ?_, fun b o e hx => ?_, fun b xs e => tups b xs (I.base.tups b xs e), fun b o xs e => frzs b o xs (I.base.frzs b o xs e), fun b ps e => ?_⟩, ?_, fun x c e => ?_, ?_, fun x c e => ?_, fun p hp => ?_, hok, I.len⟩
  · exact keep b o (neL b o e) hb (neC b o e hx) (I.base.keep b o e n hb hx) (I.base.free b o e n hx)
  · obtain ⟨sl, e1⟩ := I.base.slot b o e n hb hx
    obtain ⟨sl', e2⟩ := slot b _ (neL b o e) hb (neC b o e hx) e1 (I.base.free b o e n hx)
    exact ⟨sl', e2⟩
  · obtain ⟨o', e1⟩ := I.base.there b o e hx
    exact free b o' (neC b o e hx) e1 (I.base.free b o e n hx)
  · obtain ⟨o', e1⟩ := I.base.there b o e hx
    exact there b o' (neC b o e hx) e1
  · obtain ⟨m1, e1⟩ := I.base.tbls b ps e
    obtain ⟨m2, e2⟩ := tbls b _ e1
    exact ⟨m1 ++ m2, by rw [e2, Array.append_assoc]⟩
  · obtain ⟨m, hn, hl⟩ := I.loc
    refine ⟨m, ns m hn, fun i x v e1 e2 e3 => ?_⟩
    obtain ⟨u, r, l⟩ := hl i x v e1 e2 e3
    refine ⟨u, r, ?_⟩
    rcases l with l | ⟨k, c, e, z⟩
    · exact .inl l
    · exact .inr ⟨k, c, e, cellK x c e _ z⟩
  · obtain ⟨v, z⟩ := I.cell x c e
    exact ⟨v, cellK x c e v z⟩
  · obtain ⟨m, ⟨o, _, _, ho, _⟩, _⟩ := I.loc
    exact free _ o (fun z => (hch _ z).2.1 rfl) ho I.free
  · obtain ⟨v, o, ho, hd⟩ := I.cell x c e
    exact free c o (fun z => (hch c z).2.2.1 x c e rfl) ho (I.freeC x c e)
  · obtain ⟨e, n, ne, nf, d⟩ := I.pin p hp
    have nch : p.1 ∉ ch := fun z => (hch p.1 z).2.2.2 p hp rfl
    exact ⟨keep p.1 p.2 ne nf nch e n, free p.1 p.2 nch e n, ne, nf, d⟩
theorem Inv.un {t' : Nat} (I : Inv X pins σ H s) (u : Un X.fs [] H H' s.heap h') (hok : HOk X.prog X.w H' h') : Inv X pins σ H' { s with heap := h', toks := t' } := by
  obtain ⟨m, ⟨o, es, ep, ho, r⟩, _⟩ := id I.loc
  obtain ⟨sl, hL⟩ := u.any ho I.free (by simp)
  exact I.step (g' := s.gens) (d' := s.drawn) (ch := []) (fun _ z => nomatch z) (fun b o _ hb _ e n => u.keep b o e n hb (by simp)) (fun b o _ hb _ e n => u.slot b o e n hb (by simp)) (fun b o _ e n => u.free b o e n (by simp)) (fun b o _ e => u.there b o e (by simp)) u.tups u.frzs u.tbls (fun m' hm => by
    obtain ⟨o', es', ep', ho', r'⟩ := hm
    rw [ho] at ho'; cases ho'
    exact ⟨_, es', ep', hL, r'⟩) hok I.bare
theorem Inv.call {g' : Array GenState} {t' : Nat} {d' : Drawn} {ch : List Addr} (I : Inv X pins σ H s) (u : Un (frs X.stack) ch H H' s.heap h') (hok : HOk X.prog X.w H' h') (hg : AllBare g')
    (hch : ∀ b ∈ ch, (b ∈ X.ex ∨ X.s₀.heap.objs.size ≤ b) ∧ b ≠ X.env.locals ∧ (∀ x c, X.env.cells.lookup x = some c → c ≠ b) ∧ ∀ p ∈ X.pn ++ pins, p.1 ≠ b) :
    Inv X pins σ H' { s with heap := h', gens := g', drawn := d', toks := t' } := by
  obtain ⟨m, ⟨o, es, ep, ho, r⟩, _⟩ := id I.loc
  obtain ⟨sl, hL⟩ := u.any ho I.free fun z => (hch _ z).2.1 rfl
  exact I.step (ch := ch) hch (fun b o hL hb hc e n => u.keep b o e n (fun z => (List.mem_cons.mp (I.stkSub b z)).elim hL hb) hc) (fun b o _ _ hc e n => u.any e n hc) (fun b o hc e n => u.free b o e n hc) (fun b o hc e => u.there b o e hc) u.tups u.frzs u.tbls (fun m' hm => by
    obtain ⟨o', es', ep', ho', r'⟩ := hm
    rw [ho] at ho'; cases ho'
    exact ⟨_, es', ep', hL, r'⟩) hok hg
theorem Inv.turned {t' : Nat} {it : Addr} (I : Inv X pins σ H s) (k : ∀ b o, b ≠ it → s.heap.get? b = some o → h'.get? b = some o) (hn : H it = none) (hL : it ≠ X.env.locals)
    (h1 : it ∈ X.ex ∨ X.s₀.heap.objs.size ≤ it) (h2 : ∀ x c, X.env.cells.lookup x = some c → c ≠ it) (h3 : ∀ p ∈ X.pn ++ pins, p.1 ≠ it) : Inv X pins σ H { s with heap := h', toks := t' } := by
  have nit : ∀ b u, H b = some u → b ≠ it := fun b u e z => by rw [z, hn] at e; cases e
  refine I.step (g' := s.gens) (d' := s.drawn) (ch := [it]) (fun b hb => ?_) (fun b o _ _ hc e _ => k b o (fun z => hc (by simp [z])) e) (fun b o _ _ hc e _ => ⟨o.slots, k b o (fun z => hc (by simp [z])) e⟩) (fun _ _ _ _ n => n)
    (fun b o hc e => ⟨o, k b o (fun z => hc (by simp [z])) e⟩) (fun _ _ e => e) (fun _ _ _ e => e) (fun b ps e => ⟨#[], by rw [e]; simp⟩) (fun m hm => ?_) (fun b u e => ?_) I.bare
  · have e : b = it := by simpa using hb
    subst e
    exact ⟨h1, hL, h2, h3⟩
  · obtain ⟨o, es, ep, ho, r⟩ := hm
    exact ⟨o, es, ep, k _ o (Ne.symm hL) ho, r⟩
  · refine (I.hok b u e).stay (fun c v hc q => k c v ?_ q) (fun _ q => q) fun _ _ q => q
    rcases hc with z | z
    · rw [z]; exact nit b u e
    · exact nit c _ z
theorem Inv.tok (I : Inv X pins σ H s) (t : Nat) : Inv X pins σ H { s with toks := t } := I.un (h' := s.heap) (t' := t) Un.refl I.hok
theorem Inv.kept {t' : Nat} (I : Inv X pins σ H s) (k : ∀ b u, s.heap.get? b = some u → h'.get? b = some u) : Inv X pins σ H { s with heap := h', toks := t' } := I.un (Un.kept k) (I.hok.kept k)
theorem Inv.laid {a : Addr} {o : HO} {t' : Nat} (I : Inv X pins σ H s) (k : ∀ b u, s.heap.get? b = some u → h'.get? b = some u) (hp : s.heap.objs.size ≤ a) (new : ObjOk X.prog X.w (upd H a o) h' a o) :
    Inv X pins σ (upd H a o) { s with heap := h', toks := t' } := I.un (Un.laid k hp (I.hok.fresh hp)) (I.hok.laid k hp new)
theorem Inv.write {x e : Addr} {o : HO} {t' : Nat} (I : Inv X pins σ H s) (mu : Mut (H x)) (he : e = x ∨ H e = some (.own x)) (k : ∀ b u, b ≠ e → s.heap.get? b = some u → h'.get? b = some u) (heo : ∃ u, h'.get? e = some u)
    (new : ObjOk X.prog X.w (upd H x o) h' x o) : Inv X pins σ (upd H x o) { s with heap := h', toks := t' } := I.un (Un.write mu he k heo) (I.hok.write mu he k heo new)
theorem Inv.pins_of {pins' : List (Addr × Obj)} (I : Inv X pins σ H s) (h : ∀ p ∈ pins', s.heap.get? p.1 = some p.2 ∧ H p.1 = none ∧ p.1 ≠ X.env.locals ∧ p.1 ∉ X.fs ∧ ∀ v, p.2.data ≠ .cell v) : Inv X pins' σ H s :=
  ⟨I.ok, I.os, I.bare, I.base, I.loc, I.cell, I.free, I.freeC, fun p hp => (List.mem_append.mp hp).elim (fun z => I.pin p (List.mem_append_left _ z)) (h p), I.hok, I.len⟩
theorem nodup_ix {N : List Str} (hN : N.Nodup) {i j : Nat} {x : Str} (a : N[i]? = some x) (b : N[j]? = some x) : i = j := by
  obtain ⟨h1, e1⟩ := List.getElem?_eq_some_iff.mp a
  obtain ⟨h2, e2⟩ := List.getElem?_eq_some_iff.mp b
  exact (List.getElem_inj hN).mp (e1.trans e2.symm)
theorem store_ok2 {M : Model} {A : Around} {E : Value → Shared → Prop} {i : Nat} {x : Str} {v : V} {u : Value} {Q : Unit → Shared → Prop} (I : Inv X pins σ H s) (hN : X.N.Nodup) (hi : X.N[i]? = some x) (hx : Loc X.env.scope x) (r : RelV v u)
    (h : ∀ s', Inv X pins (σ.set i (some v)) H s' → (∃ a, Heap.SameBut a s.heap s'.heap ∧ (a = X.env.locals ∨ X.env.cells.lookup x = some a)) → Q () s') (hf : X.fn x = true ∨ X.env.scope.names.lookup x = some .local := by first | exact .inl rfl | exact .inr rfl | assumption) : wpAny M A (storeName X.env x u) Q E s := by
  obtain ⟨m, hn, hl⟩ := id I.loc
  have hcls : (X.env.scope.kind == .class || (X.env.scope.kind == .module && X.env.locals != X.env.globals)) = false := by rw [I.ok.kind]; rfl
  have hiσ : i < σ.length := by rw [I.len]; exact (List.getElem?_eq_some_iff.mp hi).1
  have cne := I.cne
  have tracked : ∀ {a : Addr} {h' : Heap}, (∃ o, s.heap.get? a = some o ∧ H a = none) → Heap.SameBut a s.heap h' → HOk X.prog X.w H h' := fun {a h'} ha hs b ob e => by
    obtain ⟨_, _, hfree⟩ := ha
    refine (I.hok b ob e).stay (fun c w' hc q => (hs.2 c ?_).trans q) (fun _ q => q) fun _ _ q => q
    rintro rfl
    rcases hc with rfl | hc
    · rw [hfree] at e; cases e
    · rw [hfree] at hc; cases hc
  rcases hx with hk | hk
  · refine wpAny_storeName_local hk hn (fun h' hn' hs => ?_) hcls
    obtain ⟨oL, _, _, hoL, _⟩ := id hn
    refine h _ ⟨I.ok, I.os, I.bare, ⟨fun b o e n hb hx => ?_, fun b o e n hb hx => ?_, I.base.free, fun b o e hx => ?_, I.base.tups, I.base.frzs, I.base.tbls⟩, ⟨_, hn', fun j y v' e1 e2 e3 => ?_⟩, fun y c e => ?_, I.free, I.freeC, fun p hp => ?_, tracked ⟨oL, hoL, I.free⟩ hs, by simpa using I.len⟩ ⟨_, hs, .inl rfl⟩
    · exact (hs.2 b (Nat.ne_of_lt (Nat.lt_of_lt_of_le (Heap.lt_size e) I.ok.above))).trans (I.base.keep b o e n hb hx)
    · obtain ⟨sl, e1⟩ := I.base.slot b o e n hb hx
      exact ⟨sl, (hs.2 b (Nat.ne_of_lt (Nat.lt_of_lt_of_le (Heap.lt_size e) I.ok.above))).trans e1⟩
    · obtain ⟨o', e1⟩ := I.base.there b o e hx
      exact ⟨o', (hs.2 b (Nat.ne_of_lt (Nat.lt_of_lt_of_le (Heap.lt_size e) I.ok.above))).trans e1⟩
    · by_cases hj : j = i
      · subst hj
        rw [hi] at e1; cases e1
        rw [List.getElem?_set_self hiσ] at e2
        cases e2
        exact ⟨u, r, .inl ⟨hk, by simp⟩⟩
      · rw [List.getElem?_set_ne (Ne.symm hj)] at e2
        obtain ⟨u', r', q⟩ := hl j y v' e1 e2 e3
        refine ⟨u', r', ?_⟩
        rcases q with ⟨k, e⟩ | ⟨k, c, e, z⟩
        · refine .inl ⟨k, ?_⟩
          have : y ≠ x := fun e => hj (nodup_ix hN e1 (e ▸ hi))
          simp [this, e]
        · exact .inr ⟨k, c, e, z.sameBut hs (cne y c e)⟩
    · obtain ⟨w', z⟩ := I.cell y c e
      exact ⟨w', z.sameBut hs (cne y c e)⟩
    · obtain ⟨e, n, ne, nf, d⟩ := I.pin p hp
      exact ⟨(hs.2 p.1 ne).trans e, n, ne, nf, d⟩
  · have hfn : X.fn x = true := by
      rcases hf with z | z
      · exact z
      · rw [z] at hk; cases hk
    obtain ⟨c, hc⟩ := I.ok.has x (.inl hk)
    obtain ⟨w', z⟩ := I.cell x c hc
    refine wpAny_storeName_cell I.ok.kind hk hc z (fun h' hc' hs => ?_)
    obtain ⟨oc, hoc, hocd⟩ := id z
    refine h { s with heap := h' } ⟨I.ok, I.os, I.bare, ⟨fun b o e n hb hx => ?_, fun b o e n hb hx => ?_, I.base.free, fun b o e hx => ?_, I.base.tups, I.base.frzs, I.base.tbls⟩, ⟨m, hn.sameBut hs (Ne.symm (cne x c hc)), fun j y v' e1 e2 e3 => ?_⟩, fun y c' e => ?_, I.free, I.freeC, fun p hp => ?_, tracked ⟨oc, hoc, I.freeC x c hc⟩ hs, by simpa using I.len⟩ ⟨c, hs, .inr hc⟩
    · exact (hs.2 b (Nat.ne_of_lt (Nat.lt_of_lt_of_le (Heap.lt_size e) (I.ok.cab x c hfn hc)))).trans (I.base.keep b o e n hb hx)
    · obtain ⟨sl, e1⟩ := I.base.slot b o e n hb hx
      exact ⟨sl, (hs.2 b (Nat.ne_of_lt (Nat.lt_of_lt_of_le (Heap.lt_size e) (I.ok.cab x c hfn hc)))).trans e1⟩
    · obtain ⟨o', e1⟩ := I.base.there b o e hx
      exact ⟨o', (hs.2 b (Nat.ne_of_lt (Nat.lt_of_lt_of_le (Heap.lt_size e) (I.ok.cab x c hfn hc)))).trans e1⟩
    · by_cases hj : j = i
      · subst hj
        rw [hi] at e1; cases e1
        rw [List.getElem?_set_self hiσ] at e2
        cases e2
        exact ⟨u, r, .inr ⟨.inl hk, c, hc, hc'⟩⟩
      · rw [List.getElem?_set_ne (Ne.symm hj)] at e2
        obtain ⟨u', r', q⟩ := hl j y v' e1 e2 e3
        refine ⟨u', r', ?_⟩
        rcases q with q | ⟨k, c', e, z'⟩
        · exact .inl q
        · refine .inr ⟨k, c', e, z'.sameBut hs ?_⟩
          rintro rfl
          exact hj (nodup_ix hN e1 (I.ok.inj _ _ _ e hc ▸ hi))
    · by_cases hcc : c' = c
      · subst hcc; exact ⟨_, hc'⟩
      · obtain ⟨w2, z2⟩ := I.cell y c' e
        exact ⟨w2, z2.sameBut hs hcc⟩
    · obtain ⟨e, n, ne, nf, d⟩ := I.pin p hp
      refine ⟨(hs.2 p.1 ?_).trans e, n, ne, nf, d⟩
      intro q
      rw [q, hoc] at e
      have q' : oc = p.2 := Option.some.inj e
      exact d w' (by rw [← q']; exact hocd)
theorem store_ok {M : Model} {A : Around} {E : Value → Shared → Prop} {i : Nat} {x : Str} {v : V} {u : Value} {Q : Unit → Shared → Prop} (I : Inv X pins σ H s) (hN : X.N.Nodup) (hi : X.N[i]? = some x) (hx : Loc X.env.scope x) (r : RelV v u)
    (h : ∀ s', Inv X pins (σ.set i (some v)) H s' → Q () s') (hf : X.fn x = true ∨ X.env.scope.names.lookup x = some .local := by first | exact .inl rfl | exact .inr rfl | assumption) : wpAny M A (storeName X.env x u) Q E s :=
  store_ok2 I hN hi hx r (fun s' I' _ => h s' I') hf
theorem Inv.call' {s' : Shared} {ch : List Addr} (I : Inv X pins σ H s) (ho : s'.os = s.os) (u : Un (frs X.stack) ch H H' s.heap s'.heap) (hok : HOk X.prog X.w H' s'.heap) (hg : AllBare s'.gens)
    (hch : ∀ b ∈ ch, (b ∈ X.ex ∨ X.s₀.heap.objs.size ≤ b) ∧ b ≠ X.env.locals ∧ (∀ x c, X.env.cells.lookup x = some c → c ≠ b) ∧ ∀ p ∈ X.pn ++ pins, p.1 ≠ b) : Inv X pins σ H' s' := by
  obtain ⟨h', g', d', t', o'⟩ := s'
  have e : o' = s.os := ho
  subst e
  exact I.call (g' := g') (t' := t') (d' := d') u hok hg hch
end
abbrev XK := Value → Option Addr → Hp → Prop
abbrev St := List (Option V)
abbrev VK := V → Hp → Prop
abbrev TE := St → Hp → VK → Prop
abbrev TT := St → Hp → (Bool → Hp → Prop) → Prop
abbrev TA := St → Hp → (List V → Hp → Prop) → Prop
structure Ends where
  nx : St → Hp → Prop
  rt : VK
  bk : St → Hp → Prop := fun _ _ => False
  ct : St → Hp → Prop := fun _ _ => False
abbrev TS := Ends → St → Hp → Prop
def EP (X : Cx) (pins : List (Addr × Obj)) (σ : St) (Q : VK) (u : Value) (s' : Shared) : Prop := ∃ v H', Inv X pins σ H' s' ∧ RelV v u ∧ Q v H'
def TP (X : Cx) (pins : List (Addr × Obj)) (σ : St) (Q : Bool → Hp → Prop) (b : Bool) (s' : Shared) : Prop := ∃ H', Inv X pins σ H' s' ∧ Q b H'
def AP (X : Cx) (pins : List (Addr × Obj)) (σ : St) (Q : List V → Hp → Prop) (us : List Value) (s' : Shared) : Prop := ∃ vs H', Inv X pins σ H' s' ∧ Vals vs us ∧ Q vs H'
def SP (X : Cx) (pins : List (Addr × Obj)) (D : Ends) (f : Flow) (s' : Shared) : Prop :=
  match f with
  | .next => ∃ σ' H', Inv X pins σ' H' s' ∧ D.nx σ' H'
  | .brk => ∃ σ' H', Inv X pins σ' H' s' ∧ D.bk σ' H'
  | .cont => ∃ σ' H', Inv X pins σ' H' s' ∧ D.ct σ' H'
  | .ret u => ∃ v σ' H', Inv X pins σ' H' s' ∧ RelV v u ∧ D.rt v H'
def PE (X : Cx) (e : Expr) (t : TE) : Prop :=
  ∀ (pins : List (Addr × Obj)) (s : Shared) (σ : St) (H : Hp) (Q : VK), Inv X pins σ H s → t σ H Q → wpAny (model X.prog X.w) X.A (eval e X.env) (EP X pins σ Q) X.xe s
def PT (X : Cx) (e : Expr) (t : TT) : Prop :=
  ∀ (pins : List (Addr × Obj)) (s : Shared) (σ : St) (H : Hp) (Q : Bool → Hp → Prop), Inv X pins σ H s → t σ H Q → wpAny (model X.prog X.w) X.A (isTrue e X.env (eval e X.env)) (TP X pins σ Q) X.xe s
def PW (X : Cx) (e : Expr) (t : TT) : Prop :=
  ∀ (whole : Sem Value) (pins : List (Addr × Obj)) (s : Shared) (σ : St) (H : Hp) (Q : Bool → Hp → Prop), Inv X pins σ H s → t σ H Q → wpAny (model X.prog X.w) X.A (isTrue e X.env whole) (TP X pins σ Q) X.xe s
theorem PW.pt {X : Cx} {e : Expr} {t : TT} (h : PW X e t) : PT X e t := h _
def PA (X : Cx) (es : List Expr) (t : TA) : Prop :=
  ∀ (pos : Pos) (pins : List (Addr × Obj)) (s : Shared) (σ : St) (H : Hp) (Q : List V → Hp → Prop), Inv X pins σ H s → t σ H Q → wpAny (model X.prog X.w) X.A (spliced (backTo pos (starEach es X.env))) (AP X pins σ Q) X.xe s
def PS (X : Cx) (st : Stmt) (t : TS) : Prop :=
  ∀ (pins : List (Addr × Obj)) (s : Shared) (σ : St) (H : Hp) (D : Ends), Inv X pins σ H s → t D σ H → wpAny (model X.prog X.w) X.A (exec st X.env) (SP X pins D) X.xe s
def PSs (X : Cx) (st : List Stmt) (t : TS) : Prop :=
  ∀ (pins : List (Addr × Obj)) (s : Shared) (σ : St) (H : Hp) (D : Ends), Inv X pins σ H s → t D σ H → wpAny (model X.prog X.w) X.A (execs st X.env) (SP X pins D) X.xe s
theorem thn {α : Type} {t : Sem α} {Q Q' : α → Shared → Prop} {M : Model} {A : Around} {E : Value → Shared → Prop} {s : Shared} (h : wpAny M A t Q E s) (hQ : ∀ a s, Q a s → Q' a s) : wpAny M A t Q' E s := wpAny_mono h hQ fun _ _ x => x
end L2
namespace L2
open PySem PySem.Spec PyProof.Rows
section
variable {X : Cx}
def tVar (i : Nat) : TE := fun σ H Q => ∃ v, σ[i]? = some (some v) ∧ Q v H
def tC (v : V) : TE := fun _ H Q => Q v H
theorem pe_var {i : Nat} {x : Str} {pos : Pos} (hN : X.N[i]? = some x) (hv : Vis X.env.scope x) (hd : (x == ("__debug__" : Str)) = false := by decide) (hcd : (x == ("__classdict__" : Str)) = false := by decide) : PE X (.Name x pos) (tVar i) := by
  intro pins s σ H Q I h
  obtain ⟨v, e, h⟩ := h
  obtain ⟨m, hn, hl⟩ := I.loc
  obtain ⟨u, r, l⟩ := hl i x v hN e hv
  have fin : EP X pins σ Q u s := ⟨v, H, I, r, h⟩
  rcases l with ⟨hk, hm⟩ | ⟨hk, c, hc, hcell⟩
  · exact wpAny_Name (wpAny_loadName_local I.ok.kind hk hn hm fin) hd
  · rcases hk with hk | hk
    · exact wpAny_Name (wpAny_loadName_cell I.ok.kind hk hc hcell fin) hd
    · exact wpAny_Name (wpAny_loadName_free I.ok.kind hk hc hcell fin hcd) hd
theorem pe_int {i j pos} : PE X (.Constant (.int i) j pos) (tC (.int i)) := fun _ _ _ H _ I h => wpAny_Constant_int ⟨.int i, H, I.tok _, ⟨_, rfl⟩, h⟩
theorem pe_bl {b j pos} : PE X (.Constant (.bool b) j pos) (tC (.bl b)) := fun _ _ _ H _ I h => Constant_bool ⟨.bl b, H, I, rfl, h⟩
theorem pe_non {j pos} : PE X (.Constant .none j pos) (tC .non) := fun _ _ _ H _ I h => Constant_none ⟨.non, H, I, rfl, h⟩
theorem pe_str {x j pos} : PE X (.Constant (.str x) j pos) (tC (.str x)) := fun _ _ _ H _ I h => Calls.Constant_str ⟨.str x, H, I.tok _, ⟨_, rfl⟩, h⟩
def Gl (X : Cx) (x : Str) : Prop := X.env.kindOf x = some .globalImplicit
theorem ld_glob {E : Value → Shared → Prop} {pins : List (Addr × Obj)} {s : Shared} {σ : St} {H : Hp} {x : Str} {u : Value} {pos : Pos} {Q : Value → Shared → Prop} (I : Inv X pins σ H s) (hg : Gl X x) (hm : X.mg x = some u) (h : Q u s)
    (hd : (x == ("__debug__" : Str)) = false := by decide) : wpAny (model X.prog X.w) X.A (eval (.Name x pos) X.env) Q E s :=
  Calls.Name_function_global I.ok.kind hg (Calls.loadGlobal_global (by rw [I.ok.glob]; exact I.mod.glob.keeps I.bk) hm h) hd
theorem ld_blt {E : Value → Shared → Prop} {pins : List (Addr × Obj)} {s : Shared} {σ : St} {H : Hp} {x : Str} {u : Value} {pos : Pos} {Q : Value → Shared → Prop} (I : Inv X pins σ H s) (hg : Gl X x) (hm : X.mg x = none) (hv : bootBuiltins x = some u) (h : Q u s)
    (hn : x ≠ "__name__" := by decide) (hd : (x == ("__debug__" : Str)) = false := by decide) : wpAny (model X.prog X.w) X.A (eval (.Name x pos) X.env) Q E s := by
  obtain ⟨mb, h1, h2⟩ := I.mod.blt
  exact Calls.Name_function_global I.ok.kind hg (Calls.loadGlobal_builtin (by rw [I.ok.glob]; exact I.mod.glob.keeps I.bk) hm (by rw [I.ok.blt]; exact h1.keeps I.bk) ((h2 x hn).trans hv) h) hd
theorem pe_glob {x : Str} {v : V} {u : Value} {pos : Pos} (hg : Gl X x) (hm : X.mg x = some u) (r : RelV v u) (hd : (x == ("__debug__" : Str)) = false := by decide) : PE X (.Name x pos) (tC v) :=
  fun _ _ _ H _ I h => ld_glob I hg hm ⟨v, H, I, r, h⟩ hd
theorem pe_bltn {x : Str} {v : V} {u : Value} {pos : Pos} (hg : Gl X x) (hm : X.mg x = none) (hv : bootBuiltins x = some u) (r : RelV v u) (hn : x ≠ "__name__" := by decide) (hd : (x == ("__debug__" : Str)) = false := by decide) : PE X (.Name x pos) (tC v) :=
  fun _ _ _ H _ I h => ld_blt I hg hm hv ⟨v, H, I, r, h⟩ hn hd
def t2I (ta tb : TE) (k : Int → Int → Hp → Prop) : St → Hp → Prop := fun σ H => ta σ H fun x H1 => tb σ H1 fun y H2 => ∃ i j, x = .int i ∧ y = .int j ∧ k i j H2
def tAdd (ta tb : TE) : TE := fun σ H Q => t2I ta tb (fun i j H2 => Q (.int (i + j)) H2) σ H
def tSub (ta tb : TE) : TE := fun σ H Q => t2I ta tb (fun i j H2 => Q (.int (i - j)) H2) σ H
def tMul (ta tb : TE) : TE := fun σ H Q => t2I ta tb (fun i j H2 => (-(2 ^ 64) < i ∧ i < 2 ^ 64) ∧ Q (.int (i * j)) H2) σ H
variable {a b : Expr} {ta tb : TE} {pos : Pos}
def PC (X : Cx) (op : CmpOp) (a b : Expr) (t : TE) : Prop :=
  ∀ (pins : List (Addr × Obj)) (s : Shared) (σ : St) (H : Hp) (Q : VK), Inv X pins σ H s → t σ H Q →
    wpAny (model X.prog X.w) X.A (eval a X.env) (fun v s₁ => wpAny (model X.prog X.w) X.A (eval b X.env) (fun u s₂ => wpAny (model X.prog X.w) X.A (compareOp op v u) (EP X pins σ Q) X.xe s₂) X.xe s₁) X.xe s
def tCmp (p : Int → Int → Bool) (ta tb : TE) : TE := fun σ H Q => t2I ta tb (fun i j H2 => Q (.bl (p i j)) H2) σ H
abbrev tLt : TE → TE → TE := tCmp fun i j => decide (i < j)
abbrev tLe : TE → TE → TE := tCmp fun i j => decide (i ≤ j)
abbrev tGt : TE → TE → TE := tCmp fun i j => decide (j < i)
abbrev tGe : TE → TE → TE := tCmp fun i j => decide (j ≤ i)
abbrev tEqI : TE → TE → TE := tCmp fun i j => decide (i = j)
abbrev tNeI : TE → TE → TE := tCmp fun i j => !decide (i = j)
def tIsN (ta : TE) : TE := fun σ H Q => ta σ H fun x H1 => Q (.bl (decide (x = .non))) H1
def tNotN (ta : TE) : TE := fun σ H Q => ta σ H fun x H1 => Q (.bl (!decide (x = .non))) H1
def tB (t : TE) : TT := fun σ H Q => t σ H fun x H1 => ∃ c, x = .bl c ∧ Q c H1
theorem pt_val {e : Expr} {t : TE} (h : PE X e t) (he : ∀ whole, isTrue e X.env whole = (do let v ← whole; standAt e.pos; holding [v] (truthy v)) := by intro _; rfl) : PT X e (tB t) := by
  intro pins s σ H Q I hw
  refine isTrue_plain (thn (h pins s σ H _ I hw) fun v s1 ⟨x, H1, I1, r1, q1⟩ => ?_) (he _)
  obtain ⟨d, rfl, q⟩ := q1
  cases r1
  exact wpAny_truthy_bool ⟨H1, I1, q⟩
variable {tA tB' : TT} {rest : List Expr}
def tAnd (t u : TT) : TT := fun σ H Q => t σ H fun c H1 => if c = true then u σ H1 Q else Q false H1
def tOr (t u : TT) : TT := fun σ H Q => t σ H fun c H1 => if c = true then Q true H1 else u σ H1 Q
def tNot (t : TT) : TT := fun σ H Q => t σ H fun c H1 => Q (!c) H1
theorem pw_and1 (ha : PT X a tA) : PW X (.BoolOp .And [a] pos) tA := by
  intro wh pins s σ H Q I h
  refine isTrue_and (thn (ha pins s σ H Q I h) fun c s1 e => ?_)
  cases c with
  | true => exact isTrue_and_nil e
  | false => exact e
theorem pw_or1 (ha : PT X a tA) : PW X (.BoolOp .Or [a] pos) tA := by
  intro wh pins s σ H Q I h
  refine isTrue_or (thn (ha pins s σ H Q I h) fun c s1 e => ?_)
  cases c with
  | false => exact isTrue_or_nil e
  | true => exact e
theorem pw_and (ha : PT X a tA) (hb : PW X (.BoolOp .And (b :: rest) pos) tB') : PW X (.BoolOp .And (a :: b :: rest) pos) (tAnd tA tB') := by
  intro wh pins s σ H Q I h
  refine isTrue_and (thn (ha pins s σ H _ I h) fun c s1 ⟨H1, I1, q1⟩ => ?_)
  cases c with
  | true => exact hb wh pins s1 σ H1 Q I1 q1
  | false => exact ⟨H1, I1, q1⟩
theorem pw_or (ha : PT X a tA) (hb : PW X (.BoolOp .Or (b :: rest) pos) tB') : PW X (.BoolOp .Or (a :: b :: rest) pos) (tOr tA tB') := by
  intro wh pins s σ H Q I h
  refine isTrue_or (thn (ha pins s σ H _ I h) fun c s1 ⟨H1, I1, q1⟩ => ?_)
  cases c with
  | true => exact ⟨H1, I1, q1⟩
  | false => exact hb wh pins s1 σ H1 Q I1 q1
theorem pt_not (ha : PT X a tA) : PT X (.UnaryOp .Not a pos) (tNot tA) := by
  intro pins s σ H Q I h
  exact isTrue_not (ha pins s σ H (fun c H1 => Q (!c) H1) I h)
def tAndV (ta tb : TE) : TE := fun σ H Q => ta σ H fun x H1 => ∃ c, x = .bl c ∧ if c = true then tb σ H1 Q else Q (.bl false) H1
def tOrV (ta tb : TE) : TE := fun σ H Q => ta σ H fun x H1 => ∃ c, x = .bl c ∧ if c = true then Q (.bl true) H1 else tb σ H1 Q
def tNotV (ta : TE) : TE := fun σ H Q => ta σ H fun x H1 => ∃ c, x = .bl c ∧ Q (.bl (!c)) H1
theorem pe_one {op} {t : TE} (h : PE X a t) : PE X (.BoolOp op [a] pos) t := fun pins s σ H Q I hw => BoolOp_one (h pins s σ H Q I hw)
theorem pe_and (ha : PE X a ta) (hb : PE X (.BoolOp .And (b :: rest) pos) tb) : PE X (.BoolOp .And (a :: b :: rest) pos) (tAndV ta tb) := by
  intro pins s σ H Q I h
  refine BoolOp_and (thn (ha pins s σ H _ I h) fun v s1 ⟨x, H1, I1, r1, q1⟩ => ?_)
  obtain ⟨c, rfl, q1⟩ := q1
  cases r1
  refine wpAny_truthy_bool ?_
  cases c with
  | true => exact hb pins s1 σ H1 Q I1 q1
  | false => exact ⟨.bl false, H1, I1, rfl, q1⟩
theorem pe_or (ha : PE X a ta) (hb : PE X (.BoolOp .Or (b :: rest) pos) tb) : PE X (.BoolOp .Or (a :: b :: rest) pos) (tOrV ta tb) := by
  intro pins s σ H Q I h
  refine BoolOp_or (thn (ha pins s σ H _ I h) fun v s1 ⟨x, H1, I1, r1, q1⟩ => ?_)
  obtain ⟨c, rfl, q1⟩ := q1
  cases r1
  refine wpAny_truthy_bool ?_
  cases c with
  | false => exact hb pins s1 σ H1 Q I1 q1
  | true => exact ⟨.bl true, H1, I1, rfl, q1⟩
theorem pe_not (ha : PE X a ta) : PE X (.UnaryOp .Not a pos) (tNotV ta) := by
  intro pins s σ H Q I h
  refine UnaryOp_ (thn (ha pins s σ H _ I h) fun v s1 ⟨x, H1, I1, r1, q1⟩ => ?_)
  obtain ⟨c, rfl, q1⟩ := q1
  cases r1
  exact not_of (wpAny_truthy_bool ⟨.bl (!c), H1, I1, rfl, q1⟩)
def tIf (t : TT) (ta tb : TE) : TE := fun σ H Q => t σ H fun c H1 => if c = true then ta σ H1 Q else tb σ H1 Q
theorem pe_ifExp {c : Expr} (hc : PT X c tA) (ha : PE X a ta) (hb : PE X b tb) : PE X (.IfExp c a b pos) (tIf tA ta tb) := by
  intro pins s σ H Q I h
  refine wpAny_IfExp (thn (hc pins s σ H _ I h) fun d s1 ⟨H1, I1, q1⟩ => ?_)
  cases d with
  | true => exact ha pins s1 σ H1 Q I1 q1
  | false => exact hb pins s1 σ H1 Q I1 q1
end
end L2
namespace L2
open PySem PySem.Spec PyProof.Rows
def SqL (K : PySem.W.Frag) (H : Hp) (a : Addr) (xs : List V) : Prop :=
  Rd H a (.lst xs) ∨
    ∃ (o : Obj) (its : Array Value) (n : Nat), K.lookup a = some o ∧ o.cls = .type "list" ∧ o.dict = none ∧ o.data = .seq its n ∧ its.size ≤ sizeLine ∧ Vals xs its.toList
def SqT (K : PySem.W.Frag) (H : Hp) (a : Addr) (xs : List V) : Prop :=
  Rd H a (.tup xs) ∨
    ∃ (o : Obj) (its : Array Value) (n : Nat), K.lookup a = some o ∧ o.cls = .type "tuple" ∧ o.data = .seq its n ∧ its.size ≤ sizeLine ∧ Vals xs its.toList
def absV : Value → Option V
  | .none => some .non
  | .bool b => some (.bl b)
  | .int i _ => some (.int i)
  | .str x _ => some (.str x)
  | .bytes b _ => some (.byt b)
  | .float b _ => some (.flt b)
  | .ref a => some (.ref a)
  | .type n => some (.ty n)
  | _ => none
theorem RelV.abs {x : V} {u : Value} (r : RelV x u) : absV u = some x := by
  cases x with
  | non => cases r; rfl
  | bl _ => cases r; rfl
  | int _ => obtain ⟨t, rfl⟩ := r; rfl
  | str _ => obtain ⟨t, rfl⟩ := r; rfl
  | byt _ => obtain ⟨t, rfl⟩ := r; rfl
  | flt _ => obtain ⟨t, rfl⟩ := r; rfl
  | ref _ => cases r; rfl
  | ty _ => cases r; rfl
theorem RelV.inj {x y : V} {u : Value} (r : RelV x u) (q : RelV y u) : x = y := Option.some.inj (r.abs.symm.trans q.abs)
theorem Vals.inj : ∀ {xs ys : List V} {us : List Value}, Vals xs us → Vals ys us → xs = ys
  | _, _, _, .nil, .nil => rfl
  | _, _, _, .cons r t, .cons r' t' => by rw [r.inj r', Vals.inj t t']
section
variable {X : Cx} {pins : List (Addr × Obj)} {σ : St} {H : Hp} {s : Shared} {a : Addr} {xs ys : List V}
theorem SqL.of {K : PySem.W.Frag} (h : H a = some (.lst xs)) : SqL K H a xs := .inl (.inl h)
theorem Inv.list (I : Inv X pins σ H s) (h : SqL X.K H a xs) : ∃ its : List Value, Vals xs its ∧ PlainL s.heap a its.toArray ∧ xs.length ≤ sizeLine := by
  rcases h with h | ⟨o, its, n, hk, hc, hd, hs, hz, r⟩
  · obtain ⟨z, its, n, r, e⟩ := h.ok I.hok
    exact ⟨its, r, ⟨_, n, e, rfl, rfl, rfl⟩, z⟩
  · refine ⟨its.toList, r, ⟨o, n, I.kIn a o hk, hc, hd, by simpa using hs⟩, ?_⟩
    have e := r.length
    simp only [Array.length_toList] at e
    omega
theorem Inv.tuple (I : Inv X pins σ H s) (h : SqT X.K H a xs) : ∃ its : List Value, Vals xs its ∧ IsTup s.heap a its.toArray ∧ xs.length ≤ sizeLine := by
  rcases h with h | ⟨o, its, n, hk, hc, hs, hz, r⟩
  · obtain ⟨z, its, r, p⟩ := h.ok I.hok
    exact ⟨its, r, p, z⟩
  · refine ⟨its.toList, r, ⟨o, I.kIn a o hk, hc, n, by simpa using hs⟩, ?_⟩
    have e := r.length
    simp only [Array.length_toList] at e
    omega
theorem Inv.list_inj (I : Inv X pins σ H s) (h : SqL X.K H a xs) (h' : SqL X.K H a ys) : xs = ys := by
  obtain ⟨its, r, ⟨o, n, e, _, _, d⟩, _⟩ := I.list h
  obtain ⟨its', r', ⟨o', n', e', _, _, d'⟩, _⟩ := I.list h'
  rw [e] at e'; cases e'
  rw [d] at d'
  injection d' with d1 _
  have : its = its' := by simpa using congrArg Array.toList d1
  subst this
  exact r.inj r'
theorem Inv.tuple_inj (I : Inv X pins σ H s) (h : SqT X.K H a xs) (h' : SqT X.K H a ys) : xs = ys := by
  obtain ⟨its, r, ⟨o, e, _, n, d⟩, _⟩ := I.tuple h
  obtain ⟨its', r', ⟨o', e', _, n', d'⟩, _⟩ := I.tuple h'
  rw [e] at e'; cases e'
  rw [d] at d'
  injection d' with d1 _
  have : its = its' := by simpa using congrArg Array.toList d1
  subst this
  exact r.inj r'
end
abbrev Cx.wish (X : Cx) (E : Value → Shared → Prop) : Cx := { X with xe := E }
abbrev Cx.nox (X : Cx) : Cx := X.wish fun _ _ => False
theorem Cx.Ok.wish {X : Cx} (ok : X.Ok) (E : Value → Shared → Prop) : (X.wish E).Ok :=
  ⟨ok.mod, ok.kind, ok.glob, ok.blt, ok.above, ok.inj, ok.has, ok.cab, ok.hd, ok.frames, ok.stk, ok.exf, ok.bs, ok.bsz, ok.noex, ok.exfs, ok.funs, ok.frf⟩
theorem Cx.Ok.unwish {X : Cx} {E : Value → Shared → Prop} (ok : (X.wish E).Ok) : X.Ok :=
  ⟨ok.mod, ok.kind, ok.glob, ok.blt, ok.above, ok.inj, ok.has, ok.cab, ok.hd, ok.frames, ok.stk, ok.exf, ok.bs, ok.bsz, ok.noex, ok.exfs, ok.funs, ok.frf⟩
section
variable {X : Cx} {pins : List (Addr × Obj)} {σ : St} {H : Hp} {s : Shared} {E : Value → Shared → Prop}
theorem Inv.wish (I : Inv X pins σ H s) (E : Value → Shared → Prop) : Inv (X.wish E) pins σ H s := ⟨I.ok.wish E, I.os, I.bare, I.base, I.loc, I.cell, I.free, I.freeC, I.pin, I.hok, I.len⟩
theorem Inv.unwish (I : Inv (X.wish E) pins σ H s) : Inv X pins σ H s := ⟨I.ok.unwish, I.os, I.bare, I.base, I.loc, I.cell, I.free, I.freeC, I.pin, I.hok, I.len⟩
theorem SP.unwish {D : Ends} {f : Flow} {s' : Shared} (h : SP (X.wish E) pins D f s') : SP X pins D f s' := by
  cases f with
  | next => obtain ⟨σ', H', I, q⟩ := h; exact ⟨σ', H', I.unwish, q⟩
  | brk => obtain ⟨σ', H', I, q⟩ := h; exact ⟨σ', H', I.unwish, q⟩
  | cont => obtain ⟨σ', H', I, q⟩ := h; exact ⟨σ', H', I.unwish, q⟩
  | ret u => obtain ⟨v, σ', H', I, r, q⟩ := h; exact ⟨v, σ', H', I.unwish, r, q⟩
theorem PSs.nox {st : List Stmt} {t : TS} (h : PSs X.nox st t) : PSs X st t := fun pins s σ H D I hw =>
  wpAny_mono (h pins s σ H D (I.wish _) hw) (fun _ _ q => q.unwish) fun _ _ z => False.elim z
end
section
variable {X : Cx} {st : Stmt} {rest : List Stmt} {t u : TS} {e : Expr} {te : TE} {pos : Pos}
def tNext : TS := fun D σ H => D.nx σ H
def tSeq (t u : TS) : TS := fun D σ H => t { D with nx := u D } σ H
theorem pss_nil : PSs X [] tNext := fun _ _ σ H _ I h => wpAny_execs_nil ⟨σ, H, I, h⟩
theorem pss_cons (h1 : PS X st t) (h2 : PSs X rest u) : PSs X (st :: rest) (tSeq t u) := by
  intro pins s σ H D I h
  refine wpAny_execs_cons (thn (h1 pins s σ H { D with nx := u D } I h) fun f s1 q => ?_)
  cases f with
  | next =>
    obtain ⟨σ', H', I', q⟩ := q
    exact h2 pins s1 σ' H' D I' q
  | ret v => exact q
  | brk => exact q
  | cont => exact q
theorem pss_one (h1 : PS X st t) : PSs X [st] t := by
  intro pins s σ H D I h
  refine wpAny_execs_cons (thn (h1 pins s σ H D I h) fun f s1 q => ?_)
  cases f with
  | next => exact wpAny_execs_nil q
  | ret v => exact q
  | brk => exact q
  | cont => exact q
def tBreak : TS := fun D σ H => D.bk σ H
def tCont : TS := fun D σ H => D.ct σ H
theorem Inv.quiet {pins : List (Addr × Obj)} {σ : St} {H : Hp} {s : Shared} (I : Inv X pins σ H s) : interactive X.env = false := by simp [interactive, I.ok.kind]
def tDrop (te : TE) : TS := fun D σ H => te σ H fun _ H1 => D.nx σ H1
theorem ps_expr (he : PE X e te) (hs : swapsWith e none pos.line X.env = pure false := by rfl) : PS X (.Expr e pos) (tDrop te) := by
  intro pins s σ H D I h
  exact wpAny_Expr_any (thn (he pins s σ H _ I h) fun v s1 ⟨x, H1, I1, r1, q1⟩ => ⟨σ, H1, I1, q1⟩) I.quiet hs
def tRet (te : TE) : TS := fun D σ H => te σ H D.rt
theorem ps_ret (he : PE X e te) : PS X (.Return (some e) pos) (tRet te) := by
  intro pins s σ H D I h
  exact wpAny_Return_some (thn (he pins s σ H _ I h) fun v s1 ⟨x, H1, I1, r1, q1⟩ => ⟨x, σ, H1, I1, r1, q1⟩)
def tRetN : TS := fun D _ H => D.rt .non H
def tIfS (c : TT) (t u : TS) : TS := fun D σ H => c σ H fun b H1 => if b = true then t D σ H1 else u D σ H1
theorem ps_if {c : Expr} {a b : List Stmt} {tc : TT} (hc : PT X c tc) (ha : PSs X a t) (hb : PSs X b u) : PS X (.If c a b pos) (tIfS tc t u) := by
  intro pins s σ H D I h
  refine wpAny_If (thn (hc pins s σ H _ I h) fun d s1 ⟨H1, I1, q1⟩ => ?_)
  cases d with
  | true => exact ha pins s1 σ H1 D I1 q1
  | false => exact hb pins s1 σ H1 D I1 q1
def tNever : TS := fun _ _ _ => False
theorem ps_never : PS X st tNever := fun _ _ _ _ _ _ h => h.elim
end
abbrev TG := V → St → Hp → (St → Hp → Prop) → Prop
abbrev TGs := List V → St → Hp → (St → Hp → Prop) → Prop
def PG (X : Cx) (target : Expr) (t : TG) : Prop :=
  ∀ (pins : List (Addr × Obj)) (s : Shared) (σ : St) (H : Hp) (v : V) (u : Value) (Q : St → Hp → Prop), Inv X pins σ H s → RelV v u → t v σ H Q →
    wpAny (model X.prog X.w) X.A (assign target X.env u) (fun _ s' => ∃ σ' H', Inv X pins σ' H' s' ∧ Q σ' H') X.xe s
def PGs (X : Cx) (ts : List Expr) (t : TGs) : Prop :=
  ∀ (pins : List (Addr × Obj)) (s : Shared) (σ : St) (H : Hp) (vs : List V) (us : List Value) (Q : St → Hp → Prop), Inv X pins σ H s → Vals vs us → t vs σ H Q →
    wpAny (model X.prog X.w) X.A (assignInOrder ((assignEach ts X.env).map (·.2)) us) (fun _ s' => ∃ σ' H', Inv X pins σ' H' s' ∧ Q σ' H') X.xe s
abbrev TSet := V → V → V → Hp → (Hp → Prop) → Prop
def PSet (X : Cx) (t : TSet) : Prop :=
  ∀ (pins : List (Addr × Obj)) (s : Shared) (σ : St) (H : Hp) (o i v : V) (ov iv u : Value) (Q : Hp → Prop), Inv X pins σ H s → RelV o ov → RelV i iv → RelV v u → t o i v H Q →
    wpAny (model X.prog X.w) X.A (setItem ov iv u) (fun _ s' => ∃ H', Inv X pins σ H' s' ∧ Q H') X.xe s
abbrev TIp := V → V → Hp → VK → Prop
def PIp (X : Cx) (op : Operator) (t : TIp) : Prop :=
  ∀ (pins : List (Addr × Obj)) (s : Shared) (σ : St) (H : Hp) (x y : V) (v u : Value) (Q : VK), Inv X pins σ H s → RelV x v → RelV y u → t x y H Q →
    wpAny (model X.prog X.w) X.A (inplaceOp op v u) (EP X pins σ Q) X.xe s
section
variable {X : Cx} {pos : Pos}
def gName (i : Nat) : TG := fun v σ H Q => Q (σ.set i (some v)) H
theorem pg_name {i : Nat} {x : Str} (hN : X.N.Nodup) (hi : X.N[i]? = some x) (hx : Loc X.env.scope x) (hf : X.fn x = true ∨ X.env.scope.names.lookup x = some .local := by first | exact .inl rfl | exact .inr rfl | assumption) : PG X (.Name x pos) (gName i) := by
  intro pins s σ H v u Q I r h
  exact wpAny_assign_Name (store_ok I hN hi hx r (fun s' I' => ⟨_, H, I', h⟩) hf)
def gNil : TGs := fun vs σ H Q => vs = [] ∧ Q σ H
def gCons (t : TG) (u : TGs) : TGs := fun vs σ H Q => ∃ v r, vs = v :: r ∧ t v σ H fun σ' H' => u r σ' H' Q
def gTup (K : PySem.W.Frag) (n : Nat) (t : TGs) : TG := fun v σ H Q => ∃ a xs, v = .ref a ∧ SqT K H a xs ∧ xs.length = n ∧ t xs σ H Q
def gSub (to ti : TE) (t : TSet) : TG := fun v σ H Q => to σ H fun o H1 => ti σ H1 fun i H2 => t o i v H2 fun H3 => Q σ H3
theorem pg_sub {o i : Expr} {to ti : TE} {t : TSet} (ho : PE X o to) (hi : PE X i ti) (hs : PSet X t)
    (ha : ∀ v, assign (.Subscript o i pos) X.env v = (do
      let ov ← holding [v] (eval o X.env)
      let iv ← holding [v, ov] (eval i X.env)
      standAt pos
      holding [v, ov, iv] (setItem ov iv v)
      release [v, ov, iv] []) := by intro _; rfl) : PG X (.Subscript o i pos) (gSub to ti t) := by
  intro pins s σ H v u Q I r h
  rw [ha]
  refine wpAny_bind (wpAny_holding (thn (ho pins s σ H _ I h) fun ov s1 ⟨x, H1, I1, r1, q1⟩ => ?_))
  refine wpAny_bind (wpAny_holding (thn (hi pins s1 σ H1 _ I1 q1) fun iv s2 ⟨y, H2, I2, r2, q2⟩ => ?_))
  refine wpAny_bind (wpAny_standAt (wpAny_bind (wpAny_holding (thn (hs pins s2 σ H2 x y v ov iv u _ I2 r1 r2 r q2) fun _ s3 ⟨H3, I3, q3⟩ => ?_))))
  exact wpAny_release ⟨σ, H3, I3, q3⟩
def tAsg (te : TE) (g : TG) : TS := fun D σ H => te σ H fun x H1 => g x σ H1 D.nx
theorem ps_asg {tg e : Expr} {te : TE} {g : TG} (he : PE X e te) (hg : PG X tg g) (hs : swapsWithSole [tg] e pos.line X.env = pure false := by rfl) (hw : swappedStores [tg] e X.env = pure none := by rfl)
    (h1 : (assignEach [tg] X.env).map (·.2) = [assign tg X.env] := by rfl) : PS X (.Assign [tg] e pos) (tAsg te g) := by
  intro pins s σ H D I h
  refine wpAny_Assign_stores (thn (he pins s σ H _ I h) fun v s1 ⟨x, H1, I1, r1, q1⟩ => ?_) hs hw
  rw [h1]
  exact thn (hg pins s1 σ H1 x v _ I1 r1 q1) fun _ s2 q => q
theorem ps_set {i : Nat} {x : Str} {e : Expr} {te : TE} {pos' : Pos} (hN : X.N.Nodup) (hi : X.N[i]? = some x) (hx : Loc X.env.scope x) (he : PE X e te) (hs : swapsWith e (some (.Name x pos')) pos.line X.env = pure false := by rfl) (hf : X.fn x = true ∨ X.env.scope.names.lookup x = some .local := by first | exact .inl rfl | exact .inr rfl | assumption) :
    PS X (.Assign [.Name x pos'] e pos) (tAsg te (gName i)) := by
  intro pins s σ H D I h
  refine wpAny_Assign_Name (thn (he pins s σ H _ I h) fun v s1 ⟨y, H1, I1, r1, q1⟩ => ?_) hs
  exact store_ok I1 hN hi hx r1 (fun s2 I2 => ⟨_, H1, I2, q1⟩) hf
def tPar (i j : Nat) (ta : TA) : TS := fun D σ H => ta σ H fun vs H1 => ∃ v w, vs = [v, w] ∧ D.nx ((σ.set i (some v)).set j (some w)) H1
def tAug (i : Nat) (te : TE) (ti : TIp) : TS := fun D σ H => ∃ x, σ[i]? = some (some x) ∧ te σ H fun y H1 => ti x y H1 fun z H2 => D.nx (σ.set i (some z)) H2
theorem ps_aug {i : Nat} {x : Str} {e : Expr} {te : TE} {op : Operator} {ti : TIp} {pos' : Pos} (hN : X.N.Nodup) (hi : X.N[i]? = some x) (hx : Loc X.env.scope x) (he : PE X e te) (ho : PIp X op ti) (hf : X.fn x = true ∨ X.env.scope.names.lookup x = some .local := by first | exact .inl rfl | exact .inr rfl | assumption) :
    PS X (.AugAssign (.Name x pos') op e pos) (tAug i te ti) := by
  intro pins s σ H D I h
  obtain ⟨v, e1, h⟩ := h
  obtain ⟨m, hn, hl⟩ := I.loc
  have vis : Vis X.env.scope x := by rcases hx with k | k; exact .inl k; exact .inr (.inl k)
  obtain ⟨u, r, l⟩ := hl i x v hi e1 vis
  refine wpAny_AugAssign_Name ?_
  have go : wpAny (model X.prog X.w) X.A (eval e X.env) (fun w s₂ => wpAny (model X.prog X.w) X.A (inplaceOp op u w) (fun r s₃ => wpAny (model X.prog X.w) X.A (storeName X.env x r) (fun _ => SP X pins D .next) X.xe s₃) X.xe s₂) X.xe s := by
    refine thn (he pins s σ H _ I h) fun w s1 ⟨y, H1, I1, r1, q1⟩ => ?_
    refine thn (ho pins s1 σ H1 v y u w _ I1 r r1 q1) fun z s2 ⟨zv, H2, I2, r2, q2⟩ => ?_
    exact store_ok I2 hN hi hx r2 (fun s3 I3 => ⟨_, H2, I3, q2⟩) hf
  rcases l with ⟨hk, hm⟩ | ⟨hk, c, hc, hcell⟩
  · exact wpAny_loadName_local I.ok.kind hk hn hm go
  · rcases hk with hk | hk
    · exact wpAny_loadName_cell I.ok.kind hk hc hcell go
    · rcases hx with k | k
      · have : X.env.scope.names.lookup x = some .free := hk
        rw [k] at this; cases this
      · have : X.env.scope.names.lookup x = some .free := hk
        rw [k] at this; cases this
def tAugS (to ti te : TE) (tget : V → V → Hp → VK → Prop) (tip : TIp) (tset : TSet) : TS := fun D σ H => to σ H fun o H1 => ti σ H1 fun i H2 => tget o i H2 fun x H3 => te σ H3 fun y H4 => tip x y H4 fun z H5 => tset o i z H5 fun H6 => D.nx σ H6
def PGet (X : Cx) (t : V → V → Hp → VK → Prop) : Prop :=
  ∀ (pins : List (Addr × Obj)) (s : Shared) (σ : St) (H : Hp) (o i : V) (ov iv : Value) (Q : VK), Inv X pins σ H s → RelV o ov → RelV i iv → t o i H Q →
    wpAny (model X.prog X.w) X.A (getItem ov iv) (EP X pins σ Q) X.xe s
def ipI (f : Int → Int → Int) : TIp := fun x y H Q => ∃ i j, x = .int i ∧ y = .int j ∧ Q (.int (f i j)) H
theorem ip_add : PIp X .Add (ipI fun i j => i + j) := by
  intro pins s σ H x y v u Q I r1 r2 h
  obtain ⟨i, j, e1, e2, q⟩ := h
  subst e1; subst e2
  obtain ⟨t, rfl⟩ := r1
  obtain ⟨t', rfl⟩ := r2
  exact iadd_int ⟨.int _, H, I.tok _, ⟨_, rfl⟩, q⟩
end
section
variable {X : Cx} {pos : Pos}
def tWhile (c : TT) (tb : TS) : TS := fun D σ H => ∃ W : Nat → St → Hp → Prop, (∃ m, W m σ H) ∧ ∀ m σ H, W m σ H →
  c σ H fun b H1 => if b = true then ∃ N : St → Hp → Prop, (∀ σ' H', N σ' H' → ∃ m', m' < m ∧ W m' σ' H') ∧ tb { D with nx := N, ct := N, bk := D.nx } σ H1 else D.nx σ H1
theorem ps_while {c : Expr} {body : List Stmt} {tc : TT} {tb : TS} (hp : PassesOwn (model X.prog X.w) X.A X.env X.xe) (hc : PT X c tc) (hb : PSs X body tb) : PS X (.While c body [] pos) (tWhile tc tb) := by
  intro pins s σ H D I h
  obtain ⟨W, ⟨m0, w0⟩, turn⟩ := h
  refine wpAny_While (codeAny_whileLoop (fun n s' => ∃ σ' H', Inv X pins σ' H' s' ∧ W n σ' H') ?_ m0 ⟨σ, H, I, w0⟩)
  rintro n s1 ⟨σ1, H1, I1, w1⟩
  refine wpAny_passesOwn hp (thn (hc pins s1 σ1 H1 _ I1 (turn n σ1 H1 w1)) fun b s2 ⟨H2, I2, q2⟩ => ?_)
  cases b with
  | true =>
    obtain ⟨N, hN, q2⟩ := q2
    rw [if_pos rfl]
    refine wpAny_passesOwn hp (thn (hb pins s2 σ1 H2 _ I2 q2) fun f s3 q3 => ?_)
    cases f with
    | next =>
      obtain ⟨σ3, H3, I3, n3⟩ := q3
      obtain ⟨m', hm, w3⟩ := hN σ3 H3 n3
      exact ⟨m', hm, σ3, H3, I3, w3⟩
    | cont =>
      obtain ⟨σ3, H3, I3, n3⟩ := q3
      obtain ⟨m', hm, w3⟩ := hN σ3 H3 n3
      exact ⟨m', hm, σ3, H3, I3, w3⟩
    | brk => exact q3
    | ret v => exact q3
  | false =>
    rw [if_neg Bool.false_ne_true]
    exact wpAny_execs_nil ⟨σ1, H2, I2, q2⟩
end
structure It where
  go : Nat → Hp → Prop
  yld : Nat → Hp → V → Hp → Prop
  stop : Nat → Hp → Prop
def FpOk (X : Cx) (pins : List (Addr × Obj)) (H : Hp) (b : Addr) : Prop :=
  H b = none ∧ b ≠ X.env.locals ∧ b ∉ X.fs ∧ (b ∈ X.ex ∨ X.s₀.heap.objs.size ≤ b) ∧ (∀ x c, X.env.cells.lookup x = some c → c ≠ b) ∧ ∀ p ∈ X.pn ++ pins, p.1 ≠ b
theorem Inv.fpOk {X : Cx} {pins : List (Addr × Obj)} {σ : St} {H H' : Hp} {s : Shared} {b : Addr} (I : Inv X pins σ H s) (hb : s.heap.objs.size ≤ b) (hn : H' b = none) : FpOk X pins H' b := by
  refine ⟨hn, Nat.ne_of_gt (Nat.lt_of_lt_of_le I.lt hb), I.nofs hb, .inr (Nat.le_trans I.sz hb), fun x c e z => ?_, fun p hp z => ?_⟩
  · obtain ⟨v, q⟩ := I.cell x c e
    exact absurd (Nat.lt_of_lt_of_le q.lt (by rw [z]; exact hb)) (Nat.lt_irrefl _)
  · exact absurd (Nat.lt_of_lt_of_le (Heap.lt_size (I.pin p hp).1) (by rw [z]; exact hb)) (Nat.lt_irrefl _)
structure Turn (P : Program) (w : World) (K : PySem.W.Frag) (tg : Expr) (J : It) (fp : List Addr) (it : Addr) (tn : Nat → Heap → Prop) : Prop where
  mem : it ∈ fp
  obj : ∀ i h, tn i h → ∀ b ∈ fp, ∃ o, h.get? b = some o ∧ ∀ v, o.data ≠ .cell v
  keep : ∀ i h h', tn i h → (∀ b ∈ fp, ∀ o, h.get? b = some o → h'.get? b = some o) → tn i h'
  item : ∀ (X : Cx), X.prog = P → X.w = w → X.K = K → X.calm = true → ∀ (i : Nat) (pins : List (Addr × Obj)) (s : Shared) (σ : St) (H : Hp) (E : Value → Shared → Prop), Inv X pins σ H s → (∀ b ∈ fp, FpOk X pins H b) → tn i s.heap → J.go i H →
    wpAny (model P w) X.A (pyNext (.ref it)) (fun r s1 => ∃ u, r = some u ∧
      wpAny (model P w) X.A (letOwnedTupleGo tg (.ref it) u) (fun _ s2 => ∃ x H', Inv X pins σ H' s2 ∧ RelV x u ∧ J.yld i H x H' ∧ tn (i + 1) s2.heap ∧ ∀ b ∈ fp, H' b = none) E s1) E s
  done : ∀ (X : Cx), X.prog = P → X.w = w → X.K = K → X.calm = true → ∀ (i : Nat) (pins : List (Addr × Obj)) (s : Shared) (σ : St) (H : Hp) (E : Value → Shared → Prop), Inv X pins σ H s → (∀ b ∈ fp, FpOk X pins H b) → tn i s.heap → J.stop i H →
    wpAny (model P w) X.A (pyNext (.ref it)) (fun r s1 => r = none ∧ Inv X pins σ H s1) E s
  self : ∀ (A : Around) (i : Nat) (s : Shared) (Q : Value → Shared → Prop) (E : Value → Shared → Prop), tn i s.heap → Q (.ref it) s → wpAny (model P w) A (pyIter (.ref it)) Q E s
abbrev TI := St → Hp → (It → Hp → Prop) → Prop
def PIE (X : Cx) (pins : List (Addr × Obj)) (σ : St) (tg : Expr) (R : It → Hp → Prop) (itv : Value) (s2 : Shared) : Prop :=
  ∃ (it : Addr) (fp : List Addr) (tn : Nat → Heap → Prop) (J : It) (H' : Hp), itv = .ref it ∧ Inv X pins σ H' s2 ∧ Turn X.prog X.w X.K tg J fp it tn ∧ tn 0 s2.heap ∧ (∀ b ∈ fp, FpOk X pins H' b) ∧ R J H'
def PI (X : Cx) (tg iter : Expr) (wi : TI) : Prop :=
  ∀ (pins : List (Addr × Obj)) (s : Shared) (σ : St) (H : Hp) (R : It → Hp → Prop), Inv X pins σ H s → wi σ H R →
    wpAny (model X.prog X.w) X.A (eval iter X.env) (fun v s1 => wpAny (model X.prog X.w) X.A (pyIter v) (PIE X pins σ tg R) X.xe s1) X.xe s
theorem go_of {M : Model} {A : Around} {E : Value → Shared → Prop} {s : Shared} {tg : Expr} {it : Addr} {u : Value} {o : Obj} {n : String} {vs : Array Value} {Q : Unit → Shared → Prop} (ho : s.heap.get? it = some o) (hc : o.cls = .type n) (hd : o.data = .fields vs)
    (hn : ["enumerate", "zip", "dict_itemiterator", "dict_reverseitemiterator", "odict_iterator", "itertools.zip_longest", "itertools.pairwise"].contains n = false) (hQ : Q () s) : wpAny M A (letOwnedTupleGo tg (.ref it) u) Q E s := by
  unfold letOwnedTupleGo
  cases tg <;> first
    | exact wpAny_pure hQ
    | (cases u <;> first
        | exact wpAny_pure hQ
        | (refine wpAny_bind (wpAny_load ho ?_)
           rw [hc, hd]
           show wpAny M A (if (["enumerate", "zip", "dict_itemiterator", "dict_reverseitemiterator", "odict_iterator", "itertools.zip_longest", "itertools.pairwise"].contains n && vs[0]? == some (rawInt _)) = true then _ else _) Q E s
           rw [if_neg (by intro h; rw [hn, Bool.false_and] at h; cases h)]
           exact wpAny_pure hQ))
def Itl (K : PySem.W.Frag) (a : Addr) : It :=
  ⟨fun i H => ∃ xs x, SqL K H a xs ∧ xs[i]? = some x, fun i H x H' => H' = H ∧ ∀ xs, SqL K H a xs → xs[i]? = some x, fun i H => ∃ xs, SqL K H a xs ∧ xs.length ≤ i⟩
def Itt (K : PySem.W.Frag) (a : Addr) : It :=
  ⟨fun i H => ∃ xs x, SqT K H a xs ∧ xs[i]? = some x, fun i H x H' => H' = H ∧ ∀ xs, SqT K H a xs → xs[i]? = some x, fun i H => ∃ xs, SqT K H a xs ∧ xs.length ≤ i⟩
def Itr (lo : Int) (n : Nat) : It := ⟨fun i _ => i < n, fun i H x H' => H' = H ∧ x = .int (lo + i), fun i _ => n ≤ i⟩
theorem turn_list {P : Program} {w : World} {K : PySem.W.Frag} {tg : Expr} (a it : Addr) : Turn P w K tg (Itl K a) [it] it (fun i h => h.IsListIter it a i) where
  mem := by simp
  obj := fun i h st b hb => by
    have e : b = it := by simpa using hb
    subst e
    obtain ⟨o, e, c, d⟩ := st
    exact ⟨o, e, fun v z => by rw [d] at z; cases z⟩
  keep := fun i h h' st k => st.at fun o e => k it (by simp) o e
  item := by
    intro X hP hw hK hc i pins s σ H E I hf st hg
    subst hP hw hK
    obtain ⟨xs, x, hq, hx⟩ := hg
    obtain ⟨its, rv, p, hz⟩ := I.list hq
    obtain ⟨u, hu, ru⟩ := rv.get hx
    obtain ⟨f0, f1, f2, f3, f4, f5⟩ := hf it (by simp)
    refine wpAny_pyNext_list_item st p.isList (x := u) (by simpa using hu) fun h' st' sb => ?_
    have I1 : Inv X pins σ H { s with heap := h' } := I.turned (t' := s.toks) (fun b o hb e => (sb.2 b hb).trans e) f0 f1 f3 f4 f5
    obtain ⟨o, e, c, d⟩ := id st'
    exact ⟨u, rfl, go_of (s := { s with heap := h' }) e c d (by decide) ⟨x, H, I1, ru, ⟨rfl, fun ys hy => by rw [I.list_inj hy hq]; exact hx⟩, st', fun b hb => (hf b hb).1⟩⟩
  done := by
    intro X hP hw hK hc i pins s σ H E I hf st hg
    subst hP hw hK
    obtain ⟨xs, hq, hx⟩ := hg
    obtain ⟨its, rv, p, hz⟩ := I.list hq
    obtain ⟨f0, f1, f2, f3, f4, f5⟩ := hf it (by simp)
    have hl := rv.length
    exact wpAny_pyNext_list_end (I.ok.hd hc) st p.isList (by simp; omega) fun h' eb => ⟨rfl, I.turned (t' := s.toks) (fun b o hb e => eb b o hb e) f0 f1 f3 f4 f5⟩
  self := fun _ _ _ _ _ st h => wpAny_pyIter_listiter st h
theorem turn_tuple {P : Program} {w : World} {K : PySem.W.Frag} {tg : Expr} (a it : Addr) : Turn P w K tg (Itt K a) [it] it (fun i h => h.IsTupleIter it a i) where
  mem := by simp
  obj := fun i h st b hb => by
    have e : b = it := by simpa using hb
    subst e
    obtain ⟨o, e, c, d⟩ := st
    exact ⟨o, e, fun v z => by rw [d] at z; cases z⟩
  keep := fun i h h' st k => st.at fun o e => k it (by simp) o e
  item := by
    intro X hP hw hK hc i pins s σ H E I hf st hg
    subst hP hw hK
    obtain ⟨xs, x, hq, hx⟩ := hg
    obtain ⟨its, rv, p, hz⟩ := I.tuple hq
    obtain ⟨u, hu, ru⟩ := rv.get hx
    obtain ⟨f0, f1, f2, f3, f4, f5⟩ := hf it (by simp)
    refine wpAny_pyNext_tuple_item st (show s.heap.IsTuple a its.toArray from p) (x := u) (by simpa using hu) fun h' st' sb => ?_
    have I1 : Inv X pins σ H { s with heap := h' } := I.turned (t' := s.toks) (fun b o hb e => (sb.2 b hb).trans e) f0 f1 f3 f4 f5
    obtain ⟨o, e, c, d⟩ := id st'
    exact ⟨u, rfl, go_of (s := { s with heap := h' }) e c d (by decide) ⟨x, H, I1, ru, ⟨rfl, fun ys hy => by rw [I.tuple_inj hy hq]; exact hx⟩, st', fun b hb => (hf b hb).1⟩⟩
  done := by
    intro X hP hw hK hc i pins s σ H E I hf st hg
    subst hP hw hK
    obtain ⟨xs, hq, hx⟩ := hg
    obtain ⟨its, rv, p, hz⟩ := I.tuple hq
    obtain ⟨f0, f1, f2, f3, f4, f5⟩ := hf it (by simp)
    have hl := rv.length
    exact wpAny_pyNext_tuple_end (I.ok.hd hc) st (show s.heap.IsTuple a its.toArray from p) (by simp; omega) fun h' eb => ⟨rfl, I.turned (t' := s.toks) (fun b o hb e => eb b o hb e) f0 f1 f3 f4 f5⟩
  self := fun _ _ _ _ _ st h => wpAny_pyIter_tupleiter st h
theorem turn_range {P : Program} {w : World} {K : PySem.W.Frag} {tg : Expr} (it : Addr) (lo : Int) (n : Nat) : Turn P w K tg (Itr lo n) [it] it (fun i h => IsRangeIter h it (lo + (i : Nat) * 1) ((n : Int) - (i : Nat)) 1) where
  mem := by simp
  obj := fun i h st b hb => by
    have e : b = it := by simpa using hb
    subst e
    exact ⟨_, st, fun v z => by
      have z' : Data.fields _ = Data.cell v := z
      cases z'⟩
  keep := fun i h h' st k => k it (by simp) _ st
  item := by
    intro X hP hw hK hc i pins s σ H E I hf st hg
    subst hP hw hK
    obtain ⟨f0, f1, f2, f3, f4, f5⟩ := hf it (by simp)
    have W := Walks.range (prog := X.prog) (w := X.w) (I.ok.hd hc) it lo 1 n
    refine W.item i s _ _ hg st fun v h' tk hv st' kk => ?_
    obtain ⟨t, rfl⟩ := hv
    have I1 : Inv X pins σ H { s with heap := h', toks := tk } := I.turned (fun b o hb e => kk b o (by simpa using hb) e) f0 f1 f3 f4 f5
    refine ⟨_, rfl, go_of (s := { s with heap := h', toks := tk }) (n := "range_iterator") st' rfl rfl (by decide) ⟨.int (lo + i), H, I1, ⟨t, ?_⟩, ⟨rfl, rfl⟩, st', fun b hb => (hf b hb).1⟩⟩
    rw [Int.mul_one]
  done := by
    intro X hP hw hK hc i pins s σ H E I hf st hg
    subst hP hw hK
    obtain ⟨f0, f1, f2, f3, f4, f5⟩ := hf it (by simp)
    exact wpAny_pyNext_range_end (I.ok.hd hc) st (by have : n ≤ i := hg; omega) fun h' eb => ⟨rfl, I.turned (t' := s.toks) (fun b o hb e => eb b o hb e) f0 f1 f3 f4 f5⟩
  self := fun _ _ _ _ _ st h => wpAny_pyIter_rangeiter st h
end L2
namespace L2
open PySem PySem.Spec PyProof.Rows
section
variable {X : Cx} {tg : Expr}
def iList (K : PySem.W.Frag) (tl : TE) : TI := fun σ H R => tl σ H fun x H1 => ∃ a, x = .ref a ∧ (∃ xs, SqL K H1 a xs) ∧ R (Itl K a) H1
def iTup (K : PySem.W.Frag) (tl : TE) : TI := fun σ H R => tl σ H fun x H1 => ∃ a, x = .ref a ∧ (∃ xs, SqT K H1 a xs) ∧ R (Itt K a) H1
theorem pi_list {l : Expr} {tl : TE} (hl : PE X l tl) : PI X tg l (iList X.K tl) := by
  intro pins s σ H R I h
  refine thn (hl pins s σ H _ I h) fun v s1 ⟨x, H1, I1, r1, q1⟩ => ?_
  obtain ⟨a, e, ⟨xs, hq⟩, q⟩ := q1
  subst e
  cases r1
  obtain ⟨its, rv, p, hz⟩ := I1.list hq
  refine wpAny_pyIter_list p.isList ?_
  refine ⟨s1.heap.objs.size, [s1.heap.objs.size], _, _, H1, rfl, I1.kept (t' := s1.toks) fun b o e => Heap.get?_push_of_some _ e, turn_list a _, ⟨_, Heap.get?_push_size _ rfl, rfl, rfl⟩, fun b hb => ?_, q⟩
  have e : b = s1.heap.objs.size := by simpa using hb
  subst e
  exact I1.fpOk (Nat.le_refl _) (I1.hok.fresh (Nat.le_refl _))
theorem pi_tup {l : Expr} {tl : TE} (hl : PE X l tl) : PI X tg l (iTup X.K tl) := by
  intro pins s σ H R I h
  refine thn (hl pins s σ H _ I h) fun v s1 ⟨x, H1, I1, r1, q1⟩ => ?_
  obtain ⟨a, e, ⟨xs, hq⟩, q⟩ := q1
  subst e
  cases r1
  obtain ⟨its, rv, p, hz⟩ := I1.tuple hq
  refine wpAny_pyIter_tuple (show s1.heap.IsTuple a its.toArray from p) ?_
  refine ⟨s1.heap.objs.size, [s1.heap.objs.size], _, _, H1, rfl, I1.kept (t' := s1.toks) fun b o e => Heap.get?_push_of_some _ e, turn_tuple a _, ⟨_, Heap.get?_push_size _ rfl, rfl, rfl⟩, fun b hb => ?_, q⟩
  have e : b = s1.heap.objs.size := by simpa using hb
  subst e
  exact I1.fpOk (Nat.le_refl _) (I1.hok.fresh (Nat.le_refl _))
theorem range_it {pins : List (Addr × Obj)} {σ : St} {H : Hp} {s : Shared} {R : It → Hp → Prop} {E : Value → Shared → Prop} {lo hi : Int} {t u v : Tok} {tk : Nat} (I : Inv X pins σ H s) (h1 : -(2 ^ 62) ≤ lo) (h2 : lo < 2 ^ 62) (h3 : -(2 ^ 62) ≤ hi) (h4 : hi < 2 ^ 62)
    (q : R (Itr lo (hi - lo).toNat) H) : wpAny (model X.prog X.w) X.A (pyIter (.ref s.heap.objs.size)) (PIE X pins σ tg R) E { s with heap := s.heap.push { cls := .type "range", data := .fields #[.int lo t, .int hi u, .int 1 v] }, toks := tk } := by
  refine wpAny_pyIter_range (IsRange.new ..) (small_one h1 h2 h3 h4) ?_
  have I1 : Inv X pins σ H { s with heap := s.heap.push { cls := .type "range", data := .fields #[.int lo t, .int hi u, .int 1 v] }, toks := tk } := I.kept fun b o e => Heap.get?_push_of_some _ e
  refine ⟨(s.heap.push { cls := .type "range", data := .fields #[.int lo t, .int hi u, .int 1 v] }).objs.size, [(s.heap.push { cls := .type "range", data := .fields #[.int lo t, .int hi u, .int 1 v] }).objs.size], _, _, H, rfl,
    I1.kept (t' := tk) fun b o e => Heap.get?_push_of_some _ e, turn_range _ lo (hi - lo).toNat, ?_, fun b hb => ?_, q⟩
  · have e1 : lo + ((0 : Nat) : Int) * 1 = lo := by simp
    have e2 : (((hi - lo).toNat : Nat) : Int) - ((0 : Nat) : Int) = Builtin.Range.rangeSize lo hi 1 := by rw [rangeSize_one]; split <;> omega
    show IsRangeIter _ _ (lo + ((0 : Nat) : Int) * 1) ((((hi - lo).toNat : Nat) : Int) - ((0 : Nat) : Int)) 1
    rw [e1, e2]
    exact Heap.get?_push_size _ rfl
  · have e : b = (s.heap.push { cls := .type "range", data := .fields #[.int lo t, .int hi u, .int 1 v] }).objs.size := by simpa using hb
    subst e
    exact I1.fpOk (Nat.le_refl _) (I1.hok.fresh (Nat.le_refl _))
def iRng1 (ta : TA) : TI := fun σ H R => ta σ H fun vs H1 => ∃ j : Int, vs = [.int j] ∧ -(2 ^ 62) ≤ j ∧ j < 2 ^ 62 ∧ R (Itr 0 j.toNat) H1
def iRng2 (ta : TA) : TI := fun σ H R => ta σ H fun vs H1 => ∃ i j : Int, vs = [.int i, .int j] ∧ (-(2 ^ 62) ≤ i ∧ i < 2 ^ 62 ∧ -(2 ^ 62) ≤ j ∧ j < 2 ^ 62) ∧ R (Itr i (j - i).toNat) H1
theorem pi_range1 {a : Expr} {ta : TA} {p pos : Pos} (hg : Gl X "range") (hm : X.mg "range" = none) (ha : PA X [a] ta) (hs : starEach [a] X.env = [(false, eval a X.env)] := by rfl) : PI X tg (.Call (.Name "range" p) [a] [] pos) (iRng1 ta) := by
  intro pins s σ H R I h
  refine Call_ (ld_blt I hg hm boot_range (PyProof.Rows.callWith_type1 (thn (ha pos pins s σ H _ I h) fun us s1 ⟨vs, H1, I1, r1, q1⟩ => ?_) hs rfl))
  obtain ⟨j, e, q1, q2, q⟩ := q1
  subst e
  cases r1 with
  | cons r rr =>
    cases rr
    obtain ⟨t, rfl⟩ := r
    exact call_range_1 (range_it I1 (by omega) (by omega) q1 q2 (by simpa using q))
def tFor (wi : TI) (g : TG) (tb : TS) : TS := fun D σ H => wi σ H fun J H1 => ∃ W : Nat → Nat → St → Hp → Prop, (∃ m, W 0 m σ H1) ∧ ∀ i m σ H, W i m σ H →
  (J.stop i H ∧ D.nx σ H) ∨ (J.go i H ∧ ∃ N : St → Hp → Prop, (∀ σ' H', N σ' H' → ∃ m', m' < m ∧ W (i + 1) m' σ' H') ∧ ∀ x H', J.yld i H x H' → g x σ H' fun σ2 H2 => tb { D with nx := N, ct := N, bk := D.nx } σ2 H2)
def pinsAt (fp : List Addr) (h : Heap) : List (Addr × Obj) := fp.filterMap fun b => (h.get? b).map fun o => (b, o)
theorem mem_pinsAt {fp : List Addr} {h : Heap} {b : Addr} {o : Obj} (hb : b ∈ fp) (e : h.get? b = some o) : (b, o) ∈ pinsAt fp h := List.mem_filterMap.mpr ⟨b, hb, by rw [e]; rfl⟩
theorem of_pinsAt {fp : List Addr} {h : Heap} {p : Addr × Obj} (hp : p ∈ pinsAt fp h) : p.1 ∈ fp ∧ h.get? p.1 = some p.2 := by
  obtain ⟨b, hb, e⟩ := List.mem_filterMap.mp hp
  cases q : h.get? b with
  | none => rw [q] at e; cases e
  | some o =>
    rw [q] at e
    have e' : (b, o) = p := Option.some.inj e
    subst e'
    exact ⟨hb, q⟩
theorem Inv.pinned {pins : List (Addr × Obj)} {σ : St} {H : Hp} {s : Shared} {fp : List Addr} (I : Inv X pins σ H s) (hf : ∀ b ∈ fp, FpOk X pins H b) (ho : ∀ b ∈ fp, ∃ o, s.heap.get? b = some o ∧ ∀ v, o.data ≠ .cell v) : Inv X (pins ++ pinsAt fp s.heap) σ H s :=
  I.pins_of fun p hp => (List.mem_append.mp hp).elim (fun z => I.pin p (List.mem_append_right _ z)) fun z => by
    obtain ⟨hb, e⟩ := of_pinsAt z
    obtain ⟨f0, f1, f2, _⟩ := hf p.1 hb
    obtain ⟨o, e', d⟩ := ho p.1 hb
    rw [e] at e'; cases e'
    exact ⟨e, f0, f1, f2, d⟩
theorem Inv.unpinned {pins pl : List (Addr × Obj)} {σ : St} {H : Hp} {s : Shared} (I : Inv X (pins ++ pl) σ H s) : Inv X pins σ H s := I.pins_of fun p hp => I.pin p (List.mem_append_right _ (List.mem_append_left _ hp))
theorem ps_for {iter : Expr} {body : List Stmt} {wi : TI} {g : TG} {tb : TS} {pos : Pos} (hp : PassesOwn (model X.prog X.w) X.A X.env X.xe) (hc : X.calm = true) (hi : PI X tg iter wi) (hg : PG X tg g) (hb : PSs X body tb)
    (hs : ∀ x, foldedSetIterable iter X.env x = pure x := by intro _; rfl) : PS X (.For tg iter body [] pos) (tFor wi g tb) := by
  intro pins s σ H D I h
  refine wpAny_For (thn (hi pins s σ H _ I h) fun v s1 h1 => thn h1 fun itv s2 h2 => ?_) hs
  obtain ⟨it, fp, tn, J, H2, e, I2, T, st2, f2, W, ⟨m0, w0⟩, turn⟩ := h2
  subst e
  have stat : ∀ {H' : Hp}, (∀ b ∈ fp, H' b = none) → ∀ b ∈ fp, FpOk X pins H' b := fun hn b hb => ⟨hn b hb, (f2 b hb).2⟩
  refine codeAny_forLoop_any (fun n s' => ∃ i σ' H', Inv X pins σ' H' s' ∧ tn i s'.heap ∧ (∀ b ∈ fp, H' b = none) ∧ W i n σ' H') ?_ m0 ⟨0, σ, H2, I2, st2, fun b hb => (f2 b hb).1, w0⟩
  rintro n s3 ⟨i, σ3, H3, I3, st3, fr3, w3⟩
  rcases turn i n σ3 H3 w3 with ⟨stop, qn⟩ | ⟨go, N, hN, step⟩
  · refine wpAny_passesOwn hp (thn (T.done X rfl rfl rfl hc i pins s3 σ3 H3 X.xe I3 (stat fr3) st3 stop) fun r s4 ⟨hr, I4⟩ => ?_)
    subst hr
    exact wpAny_execs_nil ⟨σ3, H3, I4, qn⟩
  · refine wpAny_passesOwn hp (thn (T.item X rfl rfl rfl hc i pins s3 σ3 H3 X.xe I3 (stat fr3) st3 go) fun r s4 ⟨u, hr, h4⟩ => ?_)
    subst hr
    refine wpAny_passesOwn hp (thn h4 fun _ s5 ⟨x, H5, I5, r5, y5, st5, fr5⟩ => ?_)
    have I5' := I5.pinned (stat fr5) (T.obj _ _ st5)
    refine wpAny_passesOwn hp (thn (hg _ s5 σ3 H5 x u _ I5' r5 (step x H5 y5)) fun _ s6 ⟨σ6, H6, I6, q6⟩ => ?_)
    refine wpAny_passesOwn hp (thn (hb _ s6 σ6 H6 _ I6 q6) fun f s7 q7 => ?_)
    have again : ∀ {σ7 : St} {H7 : Hp}, Inv X (pins ++ pinsAt fp s5.heap) σ7 H7 s7 → N σ7 H7 → ∃ m, m < n ∧ ∃ i σ' H', Inv X pins σ' H' s7 ∧ tn i s7.heap ∧ (∀ b ∈ fp, H' b = none) ∧ W i m σ' H' := fun {σ7 H7} I7 n7 => by
      obtain ⟨m', hm, w7⟩ := hN σ7 H7 n7
      refine ⟨m', hm, i + 1, σ7, H7, I7.unpinned, T.keep _ _ _ st5 fun b hb o e => (I7.pin (b, o) (List.mem_append_right _ (List.mem_append_right _ (mem_pinsAt hb e)))).1, fun b hb => ?_, w7⟩
      obtain ⟨o, e, d⟩ := T.obj _ _ st5 b hb
      exact (I7.pin (b, o) (List.mem_append_right _ (List.mem_append_right _ (mem_pinsAt hb e)))).2.1
    cases f with
    | next => obtain ⟨σ7, H7, I7, n7⟩ := q7; exact again I7 n7
    | cont => obtain ⟨σ7, H7, I7, n7⟩ := q7; exact again I7 n7
    | brk => obtain ⟨σ7, H7, I7, q7⟩ := q7; exact ⟨σ7, H7, I7.unpinned, q7⟩
    | ret v => obtain ⟨x7, σ7, H7, I7, r7, q7⟩ := q7; exact ⟨x7, σ7, H7, I7.unpinned, r7, q7⟩
end
theorem for_list {K : PySem.W.Frag} {a : Addr} {xs : List V} {g : TG} {tb : TS} {D : Ends} {σ : St} {H : Hp} (Pv : Nat → St → Hp → Prop) (h0 : Pv 0 σ H) (hl : ∀ i σ H, i ≤ xs.length → Pv i σ H → SqL K H a xs)
    (hs : ∀ i x σ H, xs[i]? = some x → Pv i σ H → g x σ H fun σ2 H2 => tb { D with nx := Pv (i + 1), ct := Pv (i + 1), bk := D.nx } σ2 H2) (hd : ∀ σ H, Pv xs.length σ H → D.nx σ H) :
    ∃ W : Nat → Nat → St → Hp → Prop, (∃ m, W 0 m σ H) ∧ ∀ i m σ H, W i m σ H →
      ((Itl K a).stop i H ∧ D.nx σ H) ∨ ((Itl K a).go i H ∧ ∃ N : St → Hp → Prop, (∀ σ' H', N σ' H' → ∃ m', m' < m ∧ W (i + 1) m' σ' H') ∧ ∀ x H', (Itl K a).yld i H x H' → g x σ H' fun σ2 H2 => tb { D with nx := N, ct := N, bk := D.nx } σ2 H2) := by
  refine ⟨fun i m σ H => m = xs.length - i ∧ i ≤ xs.length ∧ Pv i σ H, ⟨xs.length, by simp, Nat.zero_le _, h0⟩, ?_⟩
  rintro i m σ H ⟨rfl, hi, p⟩
  have q := hl i σ H hi p
  by_cases hlt : i < xs.length
  · refine .inr ⟨⟨xs, xs[i], q, by simp [hlt]⟩, Pv (i + 1), fun σ' H' p' => ⟨xs.length - (i + 1), by omega, rfl, hlt, p'⟩, fun x H' y => ?_⟩
    obtain ⟨e, y⟩ := y
    subst e
    exact hs i x σ _ (y xs q) p
  · have e : i = xs.length := by omega
    subst e
    exact .inl ⟨⟨xs, q, Nat.le_refl _⟩, hd σ H p⟩
theorem for_tup {K : PySem.W.Frag} {a : Addr} {xs : List V} {g : TG} {tb : TS} {D : Ends} {σ : St} {H : Hp} (Pv : Nat → St → Hp → Prop) (h0 : Pv 0 σ H) (hl : ∀ i σ H, i ≤ xs.length → Pv i σ H → SqT K H a xs)
    (hs : ∀ i x σ H, xs[i]? = some x → Pv i σ H → g x σ H fun σ2 H2 => tb { D with nx := Pv (i + 1), ct := Pv (i + 1), bk := D.nx } σ2 H2) (hd : ∀ σ H, Pv xs.length σ H → D.nx σ H) :
    ∃ W : Nat → Nat → St → Hp → Prop, (∃ m, W 0 m σ H) ∧ ∀ i m σ H, W i m σ H →
      ((Itt K a).stop i H ∧ D.nx σ H) ∨ ((Itt K a).go i H ∧ ∃ N : St → Hp → Prop, (∀ σ' H', N σ' H' → ∃ m', m' < m ∧ W (i + 1) m' σ' H') ∧ ∀ x H', (Itt K a).yld i H x H' → g x σ H' fun σ2 H2 => tb { D with nx := N, ct := N, bk := D.nx } σ2 H2) := by
  refine ⟨fun i m σ H => m = xs.length - i ∧ i ≤ xs.length ∧ Pv i σ H, ⟨xs.length, by simp, Nat.zero_le _, h0⟩, ?_⟩
  rintro i m σ H ⟨rfl, hi, p⟩
  have q := hl i σ H hi p
  by_cases hlt : i < xs.length
  · refine .inr ⟨⟨xs, xs[i], q, by simp [hlt]⟩, Pv (i + 1), fun σ' H' p' => ⟨xs.length - (i + 1), by omega, rfl, hlt, p'⟩, fun x H' y => ?_⟩
    obtain ⟨e, y⟩ := y
    subst e
    exact hs i x σ _ (y xs q) p
  · have e : i = xs.length := by omega
    subst e
    exact .inl ⟨⟨xs, q, Nat.le_refl _⟩, hd σ H p⟩
theorem for_range {lo : Int} {n : Nat} {g : TG} {tb : TS} {D : Ends} {σ : St} {H : Hp} (Pv : Nat → St → Hp → Prop) (h0 : Pv 0 σ H)
    (hs : ∀ i σ H, i < n → Pv i σ H → g (.int (lo + i)) σ H fun σ2 H2 => tb { D with nx := Pv (i + 1), ct := Pv (i + 1), bk := D.nx } σ2 H2) (hd : ∀ σ H, Pv n σ H → D.nx σ H) :
    ∃ W : Nat → Nat → St → Hp → Prop, (∃ m, W 0 m σ H) ∧ ∀ i m σ H, W i m σ H →
      ((Itr lo n).stop i H ∧ D.nx σ H) ∨ ((Itr lo n).go i H ∧ ∃ N : St → Hp → Prop, (∀ σ' H', N σ' H' → ∃ m', m' < m ∧ W (i + 1) m' σ' H') ∧ ∀ x H', (Itr lo n).yld i H x H' → g x σ H' fun σ2 H2 => tb { D with nx := N, ct := N, bk := D.nx } σ2 H2) := by
  refine ⟨fun i m σ H => m = n - i ∧ i ≤ n ∧ Pv i σ H, ⟨n, by simp, Nat.zero_le _, h0⟩, ?_⟩
  rintro i m σ H ⟨rfl, hi, p⟩
  by_cases hlt : i < n
  · refine .inr ⟨hlt, Pv (i + 1), fun σ' H' p' => ⟨n - (i + 1), by omega, rfl, hlt, p'⟩, fun x H' y => ?_⟩
    obtain ⟨e, y⟩ := y
    subst e y
    exact hs i σ _ hlt p
  · have e : i = n := by omega
    subst e
    exact .inl ⟨Nat.le_refl _, hd σ H p⟩
end L2
namespace L2
open PySem PySem.Spec PyProof.Rows
abbrev R2 := V → V → Hp → VK → Prop
def OpR (X : Cx) (f : Value → Value → Sem Value) (r : R2) : Prop :=
  ∀ (pins : List (Addr × Obj)) (s : Shared) (σ : St) (H : Hp) (x y : V) (v u : Value) (Q : VK), Inv X pins σ H s → RelV x v → RelV y u → r x y H Q →
    wpAny (model X.prog X.w) X.A (f v u) (EP X pins σ Q) X.xe s
def UnR (X : Cx) (f : Value → Sem Value) (r : V → Hp → VK → Prop) : Prop :=
  ∀ (pins : List (Addr × Obj)) (s : Shared) (σ : St) (H : Hp) (x : V) (v : Value) (Q : VK), Inv X pins σ H s → RelV x v → r x H Q →
    wpAny (model X.prog X.w) X.A (f v) (EP X pins σ Q) X.xe s
def CallR (X : Cx) (f : Value) (r : List V → Hp → VK → Prop) : Prop :=
  ∀ (pins : List (Addr × Obj)) (s : Shared) (σ : St) (H : Hp) (xs : List V) (us : List Value) (Q : VK), Inv X pins σ H s → Vals xs us → r xs H Q →
    wpAny (model X.prog X.w) X.A (call f us) (EP X pins σ Q) X.xe s
def TruR (X : Cx) (r : V → Hp → (Bool → Hp → Prop) → Prop) : Prop :=
  ∀ (pins : List (Addr × Obj)) (s : Shared) (σ : St) (H : Hp) (x : V) (v : Value) (Q : Bool → Hp → Prop), Inv X pins σ H s → RelV x v → r x H Q →
    wpAny (model X.prog X.w) X.A (truthy v) (TP X pins σ Q) X.xe s
def tOp (r : R2) (ta tb : TE) : TE := fun σ H Q => ta σ H fun x H1 => tb σ H1 fun y H2 => r x y H2 Q
def tUn (r : V → Hp → VK → Prop) (ta : TE) : TE := fun σ H Q => ta σ H fun x H1 => r x H1 Q
def rI (C : Int → Int → Prop) (g : Int → Int → V) : R2 := fun x y H Q => ∃ i j, x = .int i ∧ y = .int j ∧ C i j ∧ Q (g i j) H
def rI0 (g : Int → Int → V) : R2 := fun x y H Q => ∃ i j, x = .int i ∧ y = .int j ∧ Q (g i j) H
def rU (g : Int → V) : V → Hp → VK → Prop := fun x H Q => ∃ i, x = .int i ∧ Q (g i) H
section
variable {X : Cx} {a b c : Expr} {ta tb tc : TE} {pos : Pos}
theorem binT (ha : PE X a ta) (hb : PE X b tb) {pins : List (Addr × Obj)} {s : Shared} {σ : St} {H : Hp} {R : V → V → Hp → Prop} (I : Inv X pins σ H s)
    (h : ta σ H fun x H1 => tb σ H1 fun y H2 => R x y H2) {Q : Value → Shared → Prop} {f : Value → Value → Sem Value}
    (hf : ∀ v u s2 x y H2, Inv X pins σ H2 s2 → RelV x v → RelV y u → R x y H2 → wpAny (model X.prog X.w) X.A (f v u) Q X.xe s2) :
    wpAny (model X.prog X.w) X.A (eval a X.env) (fun v s₁ => wpAny (model X.prog X.w) X.A (eval b X.env) (fun u s₂ => wpAny (model X.prog X.w) X.A (f v u) Q X.xe s₂) X.xe s₁) X.xe s := by
  refine thn (ha pins s σ H _ I h) fun v s1 ⟨x, H1, I1, r1, q1⟩ => ?_
  refine thn (hb pins s1 σ H1 _ I1 q1) fun u s2 ⟨y, H2, I2, r2, q2⟩ => ?_
  exact hf v u s2 x y H2 I2 r1 r2 q2
theorem pe_op {op : Operator} {r : R2} (ho : OpR X (binaryOp op) r) (ha : PE X a ta) (hb : PE X b tb) : PE X (.BinOp a op b pos) (tOp r ta tb) := by
  intro pins s σ H Q I h
  exact wpAny_BinOp (binT ha hb I h fun v u s2 x y H2 I2 rx ry q => ho pins s2 σ H2 x y v u Q I2 rx ry q)
theorem pe_un {op : UnaryOp} {r : V → Hp → VK → Prop} (ho : UnR X (unaryOp op) r) (ha : PE X a ta) : PE X (.UnaryOp op a pos) (tUn r ta) := by
  intro pins s σ H Q I h
  exact UnaryOp_ (thn (ha pins s σ H _ I h) fun v s1 ⟨x, H1, I1, r1, q1⟩ => ho pins s1 σ H1 x v Q I1 r1 q1)
theorem opI {f : Value → Value → Sem Value} {C : Int → Int → Prop} {g : Int → Int → Int}
    (rule : ∀ (i j : Int) (t u : Tok) (s : Shared) (Q : Value → Shared → Prop) (E : Value → Shared → Prop), C i j → Q (.int (g i j) s.toks) { s with toks := s.toks + 1 } → wpAny (model X.prog X.w) X.A (f (.int i t) (.int j u)) Q E s) :
    OpR X f (rI C fun i j => .int (g i j)) := by
  intro pins s σ H x y v u Q I rx ry h
  obtain ⟨i, j, rfl, rfl, hc, q⟩ := h
  obtain ⟨t, rfl⟩ := rx
  obtain ⟨t', rfl⟩ := ry
  exact rule i j t t' s _ _ hc ⟨.int (g i j), H, I.tok _, ⟨_, rfl⟩, q⟩
theorem opI0 {f : Value → Value → Sem Value} {g : Int → Int → Int}
    (rule : ∀ (i j : Int) (t u : Tok) (s : Shared) (Q : Value → Shared → Prop) (E : Value → Shared → Prop), Q (.int (g i j) s.toks) { s with toks := s.toks + 1 } → wpAny (model X.prog X.w) X.A (f (.int i t) (.int j u)) Q E s) :
    OpR X f (rI0 fun i j => .int (g i j)) := by
  intro pins s σ H x y v u Q I rx ry h
  obtain ⟨i, j, rfl, rfl, q⟩ := h
  obtain ⟨t, rfl⟩ := rx
  obtain ⟨t', rfl⟩ := ry
  exact rule i j t t' s _ _ ⟨.int (g i j), H, I.tok _, ⟨_, rfl⟩, q⟩
theorem opB0 {f : Value → Value → Sem Value} {g : Int → Int → Bool}
    (rule : ∀ (i j : Int) (t u : Tok) (s : Shared) (Q : Value → Shared → Prop) (E : Value → Shared → Prop), Q (.bool (g i j)) s → wpAny (model X.prog X.w) X.A (f (.int i t) (.int j u)) Q E s) :
    OpR X f (rI0 fun i j => .bl (g i j)) := by
  intro pins s σ H x y v u Q I rx ry h
  obtain ⟨i, j, rfl, rfl, q⟩ := h
  obtain ⟨t, rfl⟩ := rx
  obtain ⟨t', rfl⟩ := ry
  exact rule i j t t' s _ _ ⟨.bl (g i j), H, I, rfl, q⟩
def CDiv (i j : Int) : Prop := 0 < j ∧ j < 1073741824
def CDivN (i j : Int) : Prop := j ≠ 0 ∧ j.natAbs < 1073741824
def CPow (i j : Int) : Prop := 0 ≤ j ∧ j ≤ 1000000 ∧ i.natAbs < 2 ^ 64
def CMul (i j : Int) : Prop := (-(2 ^ 64) < i ∧ i < 2 ^ 64) ∨ (-(2 ^ 64) < j ∧ j < 2 ^ 64)
theorem CMul.ok {i j : Int} (h : CMul i j) : IntMulOk i j := by
  rcases h with ⟨h1, h2⟩ | ⟨h1, h2⟩
  · exact .of_left (intBits_le_64 h1 h2)
  · exact .of_right (intBits_le_64 h1 h2)
theorem op_add : OpR X (binaryOp .Add) (rI0 fun i j => .int (i + j)) := opI0 fun _ _ _ _ _ _ _ q => add_int q
theorem op_sub : OpR X (binaryOp .Sub) (rI0 fun i j => .int (i - j)) := opI0 fun _ _ _ _ _ _ _ q => sub_int q
theorem op_mul : OpR X (binaryOp .Mult) (rI CMul fun i j => .int (i * j)) := opI fun _ _ _ _ _ _ _ hc q => mul_int q hc.ok
theorem op_fdiv : OpR X (binaryOp .FloorDiv) (rI CDiv fun i j => .int (i / j)) := opI fun i j _ _ _ _ _ hc q => by
  have h1 : (0 : Int) < j := hc.1
  have h2 : j < 1073741824 := hc.2
  exact floordiv_int (by omega) (by rw [Int.fdiv_eq_ediv_of_nonneg i (by omega)]; exact q) (.inl (PyProof.noPylong_small (by omega)))
theorem op_mod : OpR X (binaryOp .Mod) (rI (fun _ j => 0 < j) fun i j => .int (i % j)) := opI fun i j _ _ _ _ _ hc q => by
  have h1 : (0 : Int) < j := hc
  exact mod_int' (by omega) (by rw [Int.fmod_eq_emod_of_nonneg i (by omega)]; exact q)
theorem op_pow : OpR X (binaryOp .Pow) (rI CPow fun i j => .int (i ^ j.toNat)) := opI fun _ _ _ _ _ _ _ hc q => pow_int_small hc.1 hc.2.1 hc.2.2 q
theorem unI {f : Value → Sem Value} {g : Int → Int}
    (rule : ∀ (i : Int) (t : Tok) (s : Shared) (Q : Value → Shared → Prop) (E : Value → Shared → Prop), Q (.int (g i) s.toks) { s with toks := s.toks + 1 } → wpAny (model X.prog X.w) X.A (f (.int i t)) Q E s) :
    UnR X f (rU fun i => .int (g i)) := by
  intro pins s σ H x v Q I rx h
  obtain ⟨i, rfl, q⟩ := h
  obtain ⟨t, rfl⟩ := rx
  exact rule i t s _ _ ⟨.int (g i), H, I.tok _, ⟨_, rfl⟩, q⟩
theorem un_neg : UnR X (unaryOp .USub) (rU fun i => .int (-i)) := unI fun _ _ _ _ _ q => neg_int q
end
def scal : V → V → Bool
  | .non, .non => true | .non, .int _ => true | .int _, .non => true | .non, .bl _ => true | .bl _, .non => true | .non, .str _ => true | .str _, .non => true
  | .int _, .int _ => true | .bl _, .bl _ => true | .str _, .str _ => true | .byt _, .byt _ => true
  | .int _, .str _ => true | .str _, .int _ => true | .bl _, .str _ => true | .str _, .bl _ => true
  | _, _ => false
def rEq : R2 := fun x y H Q => scal x y = true ∧ Q (.bl (decide (x = y))) H
def rNe : R2 := fun x y H Q => scal x y = true ∧ Q (.bl (!decide (x = y))) H
theorem dec_int {i j : Int} : decide (V.int i = V.int j) = (i == j) := by
  rw [Bool.eq_iff_iff]
  simp
theorem dec_bl {i j : Bool} : decide (V.bl i = V.bl j) = (i == j) := by
  rw [Bool.eq_iff_iff]
  simp
theorem dec_str {i j : Str} : decide (V.str i = V.str j) = (i == j) := by
  rw [Bool.eq_iff_iff]
  simp
theorem dec_byt {i j : Array UInt8} : decide (V.byt i = V.byt j) = (i.toList == j.toList) := by
  rw [Bool.eq_iff_iff]
  cases i
  cases j
  simp
section
variable {X : Cx} {a b c : Expr} {ta tb tc : TE} {pos : Pos}
theorem fin_bl {pins : List (Addr × Obj)} {σ : St} {H : Hp} {s : Shared} {Q : VK} {k k' : Bool} (I : Inv X pins σ H s) (q : Q (.bl k) H) (e : k = k') : EP X pins σ Q (.bool k') s := by
  subst e
  exact ⟨.bl k, H, I, rfl, q⟩
theorem op_eq : OpR X (compareOp .Eq) rEq := by
  intro pins s σ H x y v u Q I rx ry h
  obtain ⟨hs, q⟩ := h
  cases x with
  | non =>
    cases rx
    cases y with
    | non => cases ry; exact PySem.EqNone.eq_none_none (fin_bl I q (by simp))
    | bl j => cases ry; exact PySem.EqNone.eq_none_bool (fin_bl I q (by simp))
    | int j => obtain ⟨t', rfl⟩ := ry; exact PySem.EqNone.eq_none_int (fin_bl I q (by simp))
    | str j => obtain ⟨t', rfl⟩ := ry; exact PySem.EqNone.eq_none_str (fin_bl I q (by simp))
    | _ => exact absurd (show false = true from hs) Bool.false_ne_true
  | bl i =>
    cases rx
    cases y with
    | non => cases ry; exact PySem.EqNone.eq_bool_none (fin_bl I q (by simp))
    | bl j => cases ry; exact eq_bool (fin_bl I q dec_bl)
    | str j => obtain ⟨t', rfl⟩ := ry; exact PySem.EqMixed.eq_bool_str (fin_bl I q (by simp))
    | _ => exact absurd (show false = true from hs) Bool.false_ne_true
  | int i =>
    obtain ⟨t, rfl⟩ := rx
    cases y with
    | non => cases ry; exact PySem.EqNone.eq_int_none (fin_bl I q (by simp))
    | int j => obtain ⟨t', rfl⟩ := ry; exact eq_int (fin_bl I q dec_int)
    | str j => obtain ⟨t', rfl⟩ := ry; exact PySem.EqMixed.eq_int_str (fin_bl I q (by simp))
    | _ => exact absurd (show false = true from hs) Bool.false_ne_true
  | str i =>
    obtain ⟨t, rfl⟩ := rx
    cases y with
    | non => cases ry; exact PySem.EqNone.eq_str_none (fin_bl I q (by simp))
    | bl j => cases ry; exact PySem.EqMixed.eq_str_bool (fin_bl I q (by simp))
    | int j => obtain ⟨t', rfl⟩ := ry; exact PySem.EqMixed.eq_str_int (fin_bl I q (by simp))
    | str j => obtain ⟨t', rfl⟩ := ry; exact eq_str (fin_bl I q dec_str)
    | _ => exact absurd (show false = true from hs) Bool.false_ne_true
  | byt i =>
    obtain ⟨t, rfl⟩ := rx
    cases y with
    | byt j => obtain ⟨t', rfl⟩ := ry; exact PySem.W.eq_bytes (fin_bl I q dec_byt)
    | _ => exact absurd (show false = true from hs) Bool.false_ne_true
  | _ => cases y <;> exact absurd (show false = true from hs) Bool.false_ne_true
theorem op_ne : OpR X (compareOp .NotEq) rNe := by
  intro pins s σ H x y v u Q I rx ry h
  obtain ⟨hs, q⟩ := h
  cases x with
  | non =>
    cases rx
    cases y with
    | non => cases ry; exact PySem.EqNone.ne_none_none (fin_bl I q (by simp))
    | bl j => cases ry; exact PySem.EqNone.ne_none_bool (fin_bl I q (by simp))
    | int j => obtain ⟨t', rfl⟩ := ry; exact PySem.EqNone.ne_none_int (fin_bl I q (by simp))
    | str j => obtain ⟨t', rfl⟩ := ry; exact PySem.EqNone.ne_none_str (fin_bl I q (by simp))
    | _ => exact absurd (show false = true from hs) Bool.false_ne_true
  | bl i =>
    cases rx
    cases y with
    | non => cases ry; exact PySem.EqNone.ne_bool_none (fin_bl I q (by simp))
    | bl j => cases ry; exact ne_bool (fin_bl I q (congrArg not dec_bl))
    | str j => obtain ⟨t', rfl⟩ := ry; exact PySem.EqMixed.ne_bool_str (fin_bl I q (by simp))
    | _ => exact absurd (show false = true from hs) Bool.false_ne_true
  | int i =>
    obtain ⟨t, rfl⟩ := rx
    cases y with
    | non => cases ry; exact PySem.EqNone.ne_int_none (fin_bl I q (by simp))
    | int j => obtain ⟨t', rfl⟩ := ry; exact ne_int (fin_bl I q (congrArg not dec_int))
    | str j => obtain ⟨t', rfl⟩ := ry; exact PySem.EqMixed.ne_int_str (fin_bl I q (by simp))
    | _ => exact absurd (show false = true from hs) Bool.false_ne_true
  | str i =>
    obtain ⟨t, rfl⟩ := rx
    cases y with
    | non => cases ry; exact PySem.EqNone.ne_str_none (fin_bl I q (by simp))
    | bl j => cases ry; exact PySem.EqMixed.ne_str_bool (fin_bl I q (by simp))
    | int j => obtain ⟨t', rfl⟩ := ry; exact PySem.EqMixed.ne_str_int (fin_bl I q (by simp))
    | str j => obtain ⟨t', rfl⟩ := ry; exact ne_str (fin_bl I q (congrArg not dec_str))
    | _ => exact absurd (show false = true from hs) Bool.false_ne_true
  | byt i =>
    obtain ⟨t, rfl⟩ := rx
    cases y with
    | byt j => obtain ⟨t', rfl⟩ := ry; exact PySem.W.ne_bytes (fin_bl I q (congrArg not dec_byt))
    | _ => exact absurd (show false = true from hs) Bool.false_ne_true
  | _ => cases y <;> exact absurd (show false = true from hs) Bool.false_ne_true
theorem op_lt : OpR X (compareOp .Lt) (rI0 fun i j => .bl (decide (i < j))) := opB0 fun _ _ _ _ _ _ _ q => lt_int q
theorem op_le : OpR X (compareOp .LtE) (rI0 fun i j => .bl (decide (i ≤ j))) := opB0 fun _ _ _ _ _ _ _ q => le_int q
theorem op_gt : OpR X (compareOp .Gt) (rI0 fun i j => .bl (decide (j < i))) := opB0 fun _ _ _ _ _ _ _ q => gt_int q
theorem op_ge : OpR X (compareOp .GtE) (rI0 fun i j => .bl (decide (j ≤ i))) := opB0 fun _ _ _ _ _ _ _ q => ge_int q
theorem op_isN : OpR X (compareOp .Is) (fun x y H Q => y = .non ∧ Q (.bl (decide (x = .non))) H) := by
  intro pins s σ H x y v u Q I rx ry h
  obtain ⟨rfl, q⟩ := h
  cases ry
  refine is_none_gen (fin_bl I q ?_)
  cases x <;> first
    | (cases rx; rfl)
    | (obtain ⟨t, rfl⟩ := rx; rfl)
theorem op_notN : OpR X (compareOp .IsNot) (fun x y H Q => y = .non ∧ Q (.bl (!decide (x = .non))) H) := by
  intro pins s σ H x y v u Q I rx ry h
  obtain ⟨rfl, q⟩ := h
  cases ry
  refine isnot_none_gen (fin_bl I q ?_)
  cases x <;> first
    | (cases rx; rfl)
    | (obtain ⟨t, rfl⟩ := rx; rfl)
def isObj : HO → Bool
  | .lst _ => true
  | .ins _ _ _ => true
  | _ => false
theorem nomark (b : Expr) {op : CmpOp} (h : op ≠ .In := by decide) (h2 : op ≠ .NotIn := by decide) : behindInMarks op b = false := by
  have e1 : (op == CmpOp.In) = false := by cases op <;> first | rfl | exact absurd rfl h
  have e2 : (op == CmpOp.NotIn) = false := by cases op <;> first | rfl | exact absurd rfl h2
  cases b <;> simp [behindInMarks, e1, e2]
theorem pe_cmpR {op : CmpOp} {r : R2} (ho : OpR X (compareOp op) r) (ha : PE X a ta) (hb : PE X b tb) (hm : behindInMarks op b = false) : PE X (.Compare a [op] [b] pos) (tOp r ta tb) := by
  intro pins s σ H Q I h
  exact wpAny_Compare1 (binT ha hb I h fun v u s2 x y H2 I2 rx ry q => ho pins s2 σ H2 x y v u Q I2 rx ry q) hm
def tTest (t : TE) : TT := fun σ H Q => t σ H fun x H' => ∃ k, x = .bl k ∧ Q k H'
theorem pt_cmpR {op : CmpOp} {r : R2} (ho : OpR X (compareOp op) r) (ha : PE X a ta) (hb : PE X b tb) (hm : behindInMarks op b = false) : PT X (.Compare a [op] [b] pos) (tTest (tOp r ta tb)) := by
  intro pins s σ H Q I h
  refine wpAny_isTrue_Compare1 (thn (ha pins s σ H _ I h) fun v s1 ⟨x, H1, I1, r1, q1⟩ => thn (hb pins s1 σ H1 _ I1 q1) fun u s2 ⟨y, H2, I2, r2, q2⟩ =>
    thn (ho pins s2 σ H2 x y v u _ I2 r1 r2 q2) fun c s3 ⟨z, H3, I3, r3, k, e, q3⟩ => ?_) hm
  subst e
  cases r3
  exact wpAny_truthy_bool ⟨H3, I3, q3⟩
def tChain (r r' : R2) (ta tb tc : TE) : TE := fun σ H Q => ta σ H fun x H1 => tb σ H1 fun y H2 => r x y H2 fun z H3 => ∃ k, z = .bl k ∧
  (if k = true then tc σ H3 fun w' H4 => r' y w' H4 Q else Q (.bl false) H3)
theorem pe_chain {op op' : CmpOp} {r r' : R2} (ho : OpR X (compareOp op) r) (ho' : OpR X (compareOp op') r') (ha : PE X a ta) (hb : PE X b tb) (hc : PE X c tc)
    (hm : lastMarks [op, op'] [b, c] = false := by with_unfolding_all rfl) : PE X (.Compare a [op, op'] [b, c] pos) (tChain r r' ta tb tc) := by
  intro pins s σ H Q I h
  refine Compare_chain (thn (ha pins s σ H _ I h) fun v s1 ⟨x, H1, I1, r1, q1⟩ => chain_link (thn (hb pins s1 σ H1 _ I1 q1) fun u s2 ⟨y, H2, I2, r2, q2⟩ =>
    thn (ho pins s2 σ H2 x y v u _ I2 r1 r2 q2) fun d s3 ⟨z, H3, I3, r3, k, e, q3⟩ => ?_)) hm
  subst e
  cases r3
  refine wpAny_truthy_bool ?_
  cases k with
  | false => exact ite_ff ⟨.bl false, H3, I3, rfl, q3⟩
  | true => exact ite_tt (chain_last (thn (hc pins s3 σ H3 _ I3 q3) fun w' s4 ⟨z', H4, I4, r4, q4⟩ => ho' pins s4 σ H4 y z' u w' Q I4 r2 r4 q4))
theorem pt_chain {op op' : CmpOp} {r r' : R2} (ho : OpR X (compareOp op) r) (ho' : OpR X (compareOp op') r') (ha : PE X a ta) (hb : PE X b tb) (hc : PE X c tc)
    (hm : lastMarks [op, op'] [b, c] = false := by with_unfolding_all rfl) : PT X (.Compare a [op, op'] [b, c] pos) (tTest (tChain r r' ta tb tc)) := by
  intro pins s σ H Q I h
  refine isTrue_chain (thn (ha pins s σ H _ I h) fun v s1 ⟨x, H1, I1, r1, q1⟩ => test_link (thn (hb pins s1 σ H1 _ I1 q1) fun u s2 ⟨y, H2, I2, r2, q2⟩ =>
    thn (ho pins s2 σ H2 x y v u _ I2 r1 r2 q2) fun d s3 ⟨z, H3, I3, r3, k, e, q3⟩ => ?_)) hm
  subst e
  cases r3
  refine wpAny_truthy_bool ?_
  cases k with
  | false =>
    obtain ⟨k', e', q'⟩ := q3
    cases e'
    exact ite_ff ⟨H3, I3, q'⟩
  | true =>
    refine ite_tt (test_last (thn (hc pins s3 σ H3 _ I3 q3) fun w' s4 ⟨z', H4, I4, r4, q4⟩ => thn (ho' pins s4 σ H4 y z' u w' _ I4 r2 r4 q4) fun d' s5 ⟨z2, H5, I5, r5, k2, e2, q5⟩ => ?_))
    subst e2
    cases r5
    exact wpAny_truthy_bool ⟨H5, I5, q5⟩
def TruV (K : PySem.W.Frag) (x : V) (H : Hp) (k : Bool) : Prop :=
  match x with
  | .non => k = false
  | .bl b => k = b
  | .int i => k = (i != 0)
  | .str y => y.length ≤ sizeLine ∧ k = ((y.length : Int) != 0)
  | .byt y => y.size ≤ sizeLine ∧ k = ((y.size : Int) != 0)
  | .ref p => (∃ xs, SqL K H p xs ∧ k = !xs.isEmpty) ∨ (∃ xs, SqT K H p xs ∧ k = !xs.isEmpty) ∨ ∃ kvs, H p = some (.dK kvs) ∧ k = !kvs.isEmpty
  | _ => False
theorem line63 : (sizeLine : Nat) < 2 ^ 63 := by rw [sizeLine_eq]; decide
def PlainIxT (b : Expr) : Prop := ∀ o i, subscripted b false o i = operate [o, i] (getItem o i)
theorem vals1 {x : V} {us : List Value} (r : Vals [x] us) : ∃ u, us = [u] ∧ RelV x u := by
  cases r with
  | cons r1 r2 => cases r2; exact ⟨_, rfl, r1⟩
theorem vals2 {x y : V} {us : List Value} (r : Vals [x, y] us) : ∃ u w', us = [u, w'] ∧ RelV x u ∧ RelV y w' := by
  cases r with
  | cons r1 r2 =>
    cases r2 with
    | cons r3 r4 => cases r4; exact ⟨_, _, rfl, r1, r3⟩
def LenV (K : PySem.W.Frag) (x : V) (H : Hp) (n : Nat) : Prop :=
  match x with
  | .str y => y.length ≤ sizeLine ∧ n = y.length
  | .byt y => y.size ≤ sizeLine ∧ n = y.size
  | .ref p => (∃ xs, SqL K H p xs ∧ n = xs.length) ∨ ∃ xs, SqT K H p xs ∧ n = xs.length
  | _ => False
end
end L2
namespace L2
open PySem PySem.Spec PyProof.Rows
structure ObjM (h : Heap) (x dx C : Addr) (mA : Str → Option Value) : Prop where
  obj : h.get? x = some (PySem.W.instObj C dx)
  ns : h.Ns1 dx mA
  ne : dx ≠ x
theorem lookIn_ns {h : Heap} {dx : Addr} {mA : Str → Option Value} (n : h.Ns1 dx mA) : ∃ od, h.get? dx = some od ∧ ∀ name, PySem.W.lookIn name od = some (mA name) := by
  obtain ⟨o, es, ep, ho, hd, hk, _, hm⟩ := n
  refine ⟨o, ho, fun name => ?_⟩
  have e := hm name
  unfold nsFind findBy at e
  rw [← Array.find?_toList] at e
  unfold PySem.W.lookIn
  rw [hd]
  dsimp only
  split
  · rename_i y q
    rw [q] at e
    exact congrArg some e
  · rename_i q
    rw [q] at e
    have a : es.toList.any (·.refKey) = false := by
      rw [List.any_eq_false]
      intro y hy
      obtain ⟨z, t, hkey⟩ := hk y (Array.mem_toList_iff.mp hy)
      simp [DictEntry.refKey, hkey]
    have a' : ¬ es.toList.any (·.refKey) = true := by rw [a]; exact Bool.false_ne_true
    rw [if_neg a']
    exact congrArg some e
theorem ObjM.look {h : Heap} {x dx C : Addr} {mA : Str → Option Value} (I : ObjM h x dx C mA) : ∃ od, PySem.W.InstAt h x (PySem.W.instObj C dx) C (some od) ∧ ∀ name, PySem.W.lookIn name od = some (mA name) :=
  let ⟨od, ho, hl⟩ := lookIn_ns I.ns
  ⟨od, ⟨I.obj, rfl, rfl, ho⟩, hl⟩
section
variable {prog : Program} {w : World} {A : Around} {E : Value → Shared → Prop} {s : Shared} {K : PySem.W.Frag} {x dx C f : Addr} {mA : Str → Option Value} {name : Str} {v : Value}
theorem get_map {expr : Bool} {Q : Value → Shared → Prop} (X : K.In s.heap) (I : ObjM s.heap x dx C mA) (hg : PySem.W.plainGet K C name = true) (hh : PySem.W.hasDictIn K C = true)
    (ha : PySem.W.findIn K (.ref C) name = some none) (hv : mA name = some v) (hv' : PySem.W.handedIn v = true) (h : Q v { s with toks := s.toks + 1 }) :
    wpAny (model prog w) A (getAttr (.ref x) name expr) Q E s := by
  obtain ⟨od, J, hl⟩ := I.look
  exact PySem.W.get_value X J (PySem.W.plainGet_of hg).1 (PySem.W.findObj_own hh ha rfl (by rw [hl, hv])) hv' h
theorem get_meth {pl : Sem Bool} {Q : Value × List Value → Shared → Prop} (X : K.In s.heap) (I : ObjM s.heap x dx C mA) (hg : PySem.W.plainGet K C name = true)
    (hf : PySem.W.findIn K (.ref C) name = some (some (.ref f))) (ht : PySem.W.isFn K (.ref f) = true) (hv : mA name = none) (h : Q (.ref f, [.ref x]) s) :
    wpAny (model prog w) A (getMethod (.ref x) name pl) Q E s := by
  obtain ⟨od, J, hl⟩ := I.look
  exact PySem.W.method_fn X J (PySem.W.plainGet_of hg).1 (PySem.W.plainGet_of hg).2 hf (beq_iff_eq.mp ht) (by show (PySem.W.lookIn name od).map (·.isSome) = some false; rw [hl, hv]; rfl) h
theorem set_map {ns : List Str} {Q : Unit → Shared → Prop} (X : K.In s.heap) (I : ObjM s.heap x dx C mA)
    (hs : PySem.W.findIn K (.ref C) "__setattr__" = some (some (.builtin "object.__setattr__"))) (hp : PySem.W.plainOver K C = true) (ht : PySem.W.takerIn K C name = some none) (hh : PySem.W.hasDictIn K C = true)
    (hw : PySem.Within mA ns) (hsz : ns.length ≤ sizeLine)
    (h : ∀ h', ObjM h' x dx C (fun y => if y = name then some v else mA y) → Heap.SameBut dx s.heap h' → Q () { s with heap := h', toks := s.toks + 2 }) :
    wpAny (model prog w) A (setAttr (.ref x) name v) Q E s := by
  obtain ⟨od, J, hl⟩ := I.look
  refine PySem.W.set_plain X J hs (PySem.W.osa_open (s := { s with toks := s.toks + 1 }) (r := none) X J hp ht fun b => ?_)
  obtain ⟨cd, hc, hd'⟩ := PySem.W.any_some hh
  have hx : s.heap.get? x = some ⟨.ref C, some dx, .plain, #[]⟩ := I.obj
  refine wpAny_bind (wpAny_pure (wpAny_bind (wpAny_bind (wpAny_loadPart hx (wpAny_bind (PySem.W.Looks.here (s := { s with toks := s.toks + 1 }) (PySem.W.looks_clsIn X hc) ?_))))))
  rw [hd']
  refine wpAny_pure (a := some dx) (wpAny_bind (wpAny_pure (wpAny_bind ?_)))
  refine wpAny_nsSet1 (s := { s with toks := s.toks + 1 }) I.ns fun h' hn2 hs2 => ?_
  obtain ⟨oD, esD, epD, hoD, hdD, hcD⟩ := hn2.count (PySem.Within.cons name v hw)
  refine wpAny_bind (wpAny_lookBehind hoD (by rw [hdD]; exact pastItsLine_dict (Nat.le_trans hcD (by rw [List.length_cons]; omega))) ?_)
  exact wpAny_pure (h _ ⟨(hs2.2 _ (Ne.symm I.ne)).trans I.obj, hn2, I.ne⟩ hs2)
theorem make_map {R : Result → Shared → Prop} {vs : List Value} {kw : List (Str × Value)} (X : K.In s.heap) (hm : PySem.W.makesIn K C = true)
    (hi : PySem.W.findIn K (.ref C) "__init__" = some (some (.ref f))) (hf : PySem.W.typeIn K (.ref f) = some (.type "function"))
    (h : codeAny (model prog w) (A.under (.builtin "type.__call__" ⟨.ref C :: vs, kw⟩)) (.call (.ref f) ⟨.ref (s.heap.objs.size + 1) :: vs, kw⟩) (PySem.W.InitBack (s.heap.objs.size + 1) R)
      { s with heap := (s.heap.push PySem.W.emptyDict).push (PySem.W.instObj C s.heap.objs.size) }) :
    codeAny (model prog w) A (.call (.ref C) ⟨vs, kw⟩) R s := by
  obtain ⟨hh, g, d, t, os⟩ := s
  exact PySem.W.make_core (PySem.W.makes_of X hm) (PySem.W.looks_findIn X hi) (fun self => PySem.W.bind_fn X self hf) (.inl rfl) h
end
def putF (f : Str) (v : V) : List (Str × V) → List (Str × V)
  | [] => [(f, v)]
  | (g, x) :: r => if g = f then (g, v) :: r else (g, x) :: putF f v r
theorem lookup_putF (f g : Str) (v : V) : ∀ fs : List (Str × V), (putF f v fs).lookup g = if g = f then some v else fs.lookup g
  | [] => by
    show List.lookup g [(f, v)] = _
    by_cases h : g = f
    · have hb : (g == f) = true := beq_iff_eq.mpr h
      simp only [List.lookup, hb, if_pos h]
    · have hb : (g == f) = false := beq_eq_false_iff_ne.mpr h
      simp only [List.lookup, hb, if_neg h]
  | (k, x) :: r => by
    have ih := lookup_putF f g v r
    rw [show putF f v ((k, x) :: r) = (if k = f then (k, v) :: r else (k, x) :: putF f v r) from rfl]
    by_cases hk : k = f
    · rw [if_pos hk]
      by_cases h : g = k
      · have hb : (g == k) = true := beq_iff_eq.mpr h
        simp only [List.lookup, hb, if_pos (h.trans hk)]
      · have hb : (g == k) = false := beq_eq_false_iff_ne.mpr h
        simp only [List.lookup, hb, if_neg (fun e : g = f => h (e.trans hk.symm))]
    · rw [if_neg hk]
      by_cases h : g = k
      · have hb : (g == k) = true := beq_iff_eq.mpr h
        simp only [List.lookup, hb, if_neg (fun e : g = f => hk (h.symm.trans e))]
      · have hb : (g == k) = false := beq_eq_false_iff_ne.mpr h
        simp only [List.lookup, hb]
        exact ih
theorem keys_putF (f : Str) (v : V) : ∀ fs : List (Str × V), f ∈ (putF f v fs).map (·.1) ∧ ∀ g, g ∈ fs.map (·.1) → g ∈ (putF f v fs).map (·.1)
  | [] => ⟨by simp [putF], fun g h => by simp at h⟩
  | (k, x) :: r => by
    obtain ⟨i1, i2⟩ := keys_putF f v r
    rw [show putF f v ((k, x) :: r) = (if k = f then (k, v) :: r else (k, x) :: putF f v r) from rfl]
    by_cases hk : k = f
    · rw [if_pos hk]
      subst hk
      exact ⟨by simp, fun g h => by simpa using h⟩
    · rw [if_neg hk]
      refine ⟨?_, fun g h => ?_⟩
      · rw [List.map_cons]
        exact List.mem_cons_of_mem _ i1
      · rw [List.map_cons] at h ⊢
        rcases List.mem_cons.mp h with e | e
        · exact List.mem_cons.mpr (.inl e)
        · exact List.mem_cons_of_mem _ (i2 g e)
theorem length_putF (f : Str) (v : V) : ∀ fs : List (Str × V), (putF f v fs).length ≤ fs.length + 1
  | [] => by simp [putF]
  | (k, x) :: r => by
    have ih := length_putF f v r
    rw [show putF f v ((k, x) :: r) = (if k = f then (k, v) :: r else (k, x) :: putF f v r) from rfl]
    by_cases hk : k = f
    · rw [if_pos hk, List.length_cons, List.length_cons]; omega
    · rw [if_neg hk, List.length_cons, List.length_cons]; omega
theorem RelO.some_of {v : V} {o : Option Value} (r : RelO (some v) o) : ∃ u, o = some u ∧ RelV v u := by
  cases o with
  | none => exact (show False from r).elim
  | some u => exact ⟨u, rfl, r⟩
theorem RelO.none_of {o : Option Value} (r : RelO none o) : o = none := by
  cases o with
  | none => rfl
  | some u => exact (show False from r).elim
theorem handed_of {v : V} {u : Value} (r : RelV v u) : PySem.W.handedIn u = true := by
  cases v with
  | non => cases (show u = Value.none from r); rfl
  | bl b => cases (show u = Value.bool b from r); rfl
  | int i => obtain ⟨t, e⟩ := (show ∃ t, u = Value.int i t from r); cases e; rfl
  | str x => obtain ⟨t, e⟩ := (show ∃ t, u = Value.str x t from r); cases e; rfl
  | byt b => obtain ⟨t, e⟩ := (show ∃ t, u = Value.bytes b t from r); cases e; rfl
  | flt b => obtain ⟨t, e⟩ := (show ∃ t, u = Value.float b t from r); cases e; rfl
  | ref a => cases (show u = Value.ref a from r); rfl
  | ty n => cases (show u = Value.type n from r); rfl
section
variable {P : Program} {w : World} {H H' : Hp} {h h' : Heap} {a C dx : Addr} {fs fs' : List (Str × V)}
theorem ins_get (hok : HOk P w H h) (e : H a = some (.ins C dx fs)) : ∃ mA, ObjM h a dx C mA ∧ (∀ f, RelO (fs.lookup f) (mA f)) ∧ PySem.Within mA (fs.map (·.1)) ∧ fs.length ≤ 1000 ∧ H dx = some (.own a) := by
  obtain ⟨d, z, ne, ob, mA, n, r, q⟩ := (show ObjOk P w H h a (.ins C dx fs) from hok a _ e)
  exact ⟨mA, ⟨ob, n, ne⟩, r, q, z, d⟩
end
structure Cls (K : PySem.W.Frag) (C : Addr) : Prop where
  pg : PySem.W.plainGet K C Str.empty = true
  hd : PySem.W.hasDictIn K C = true
  po : PySem.W.plainOver K C = true
  sa : PySem.W.findIn K (.ref C) "__setattr__" = some (some (.builtin "object.__setattr__"))
theorem Cls.get {K : PySem.W.Frag} {C : Addr} (c : Cls K C) (f : Str) : PySem.W.plainGet K C f = true := c.pg
def NoAttr (K : PySem.W.Frag) (C : Addr) (f : Str) : Prop := PySem.W.findIn K (.ref C) f = some none
theorem NoAttr.taker {K : PySem.W.Frag} {C : Addr} {f : Str} (n : NoAttr K C f) : PySem.W.takerIn K C f = some none := by
  unfold PySem.W.takerIn
  rw [show PySem.W.findIn K (.ref C) f = some none from n]
  rfl
structure Con (K : PySem.W.Frag) (C : Addr) (f : Str) (v : V) (u : Value) : Prop where
  at_ : PySem.W.findIn K (.ref C) f = some (some u)
  rel : RelV v u
  get : PySem.W.specialIn K u "__get__" = some none
  cp : PySem.W.copiedNames.contains f = false
structure Meth (K : PySem.W.Frag) (C : Addr) (m : Str) (f : Addr) : Prop where
  at_ : PySem.W.findIn K (.ref C) m = some (some (.ref f))
  fn : PySem.W.isFn K (.ref f) = true
  kp : PySem.W.keepIn K (.ref f) = true
section
variable {X : Cx} {pins : List (Addr × Obj)} {σ : St} {H : Hp} {s : Shared} {a C dx : Addr} {fs : List (Str × V)} {f : Str} {v : V} {A : Around} {E : Value → Shared → Prop}
theorem getattr_ok {b : Bool} {Q : Value → Shared → Prop} (I : Inv X pins σ H s) (e : H a = some (.ins C dx fs)) (c : Cls X.K C) (n : NoAttr X.K C f) (l : fs.lookup f = some v)
    (h : ∀ u s', Inv X pins σ H s' → RelV v u → Q u s') : wpAny (model X.prog X.w) A (getAttr (.ref a) f b) Q E s := by
  obtain ⟨mA, O, r, _, _, _⟩ := ins_get I.hok e
  obtain ⟨u, hu, ru⟩ := RelO.some_of (v := v) (o := mA f) (by rw [← l]; exact r f)
  exact get_map I.kIn O (c.get f) c.hd n hu (handed_of ru) (h u _ (I.tok _) ru)
theorem getmeth_ok {m : Str} {g : Addr} {pl : Sem Bool} {Q : Value × List Value → Shared → Prop} (I : Inv X pins σ H s) (e : H a = some (.ins C dx fs)) (c : Cls X.K C) (k : Meth X.K C m g) (l : fs.lookup m = none)
    (h : Q (.ref g, [.ref a]) s) : wpAny (model X.prog X.w) A (getMethod (.ref a) m pl) Q E s := by
  obtain ⟨mA, O, r, _, _, _⟩ := ins_get I.hok e
  have hn : mA m = none := RelO.none_of (by rw [← l]; exact r m)
  exact get_meth I.kIn O (c.get m) k.at_ k.fn hn h
theorem setattr_ok {y : V} {u : Value} {Q : Unit → Shared → Prop} (I : Inv X pins σ H s) (e : H a = some (.ins C dx fs)) (c : Cls X.K C) (n : NoAttr X.K C f) (hl : fs.length < 1000) (ry : RelV y u)
    (h : ∀ s', Inv X pins σ (upd H a (.ins C dx (putF f y fs))) s' → Q () s') : wpAny (model X.prog X.w) A (setAttr (.ref a) f u) Q E s := by
  obtain ⟨mA, O, r, wi, _, ho⟩ := ins_get I.hok e
  have hz : (fs.map (·.1)).length ≤ sizeLine := by rw [List.length_map, sizeLine_eq]; omega
  refine set_map I.kIn O c.sa c.po n.taker c.hd wi hz fun h' O' sb => h _ ?_
  have hd : ∃ o, h'.get? dx = some o := let ⟨o, _, _, e', _⟩ := O'.ns; ⟨o, e'⟩
  refine I.write (x := a) (e := dx) (by rw [e]; exact True.intro) (.inr ho) (fun b q hb z => (sb.2 b hb).trans z) hd ?_
  refine ⟨by rw [upd_ne O.ne]; exact ho, ?_, O.ne, O'.obj, _, O'.ns, fun g => ?_, fun g hg => ?_⟩
  · have := length_putF f y fs; omega
  · show RelO ((putF f y fs).lookup g) (if g = f then some u else mA g)
    rw [lookup_putF]
    by_cases q : g = f
    · rw [if_pos q, if_pos q]; exact ry
    · rw [if_neg q, if_neg q]; exact r g
  · by_cases q : g = f
    · rw [q]; exact (keys_putF f y fs).1
    · refine (keys_putF f y fs).2 g (wi g fun z => hg ?_)
      show (if g = f then some u else mA g) = none
      rw [if_neg q]; exact z
theorem Inv.made (I : Inv X pins σ H s) : Inv X pins σ (upd (upd H s.heap.objs.size (.own (s.heap.objs.size + 1))) (s.heap.objs.size + 1) (.ins C s.heap.objs.size []))
    { s with heap := (s.heap.push PySem.W.emptyDict).push (PySem.W.instObj C s.heap.objs.size) } := by
  have e1 : (s.heap.push PySem.W.emptyDict).get? s.heap.objs.size = some PySem.W.emptyDict := Heap.get?_push_size s.heap rfl
  have e2 : ((s.heap.push PySem.W.emptyDict).push (PySem.W.instObj C s.heap.objs.size)).get? (s.heap.objs.size + 1) = some (PySem.W.instObj C s.heap.objs.size) := by
    have := Heap.get?_push_size (s.heap.push PySem.W.emptyDict) (o := PySem.W.instObj C s.heap.objs.size) rfl
    rwa [Heap.size_push] at this
  have e3 : (s.heap.push PySem.W.emptyDict).Ns s.heap.objs.size (fun _ => none) := ⟨PySem.W.emptyDict, #[], _, e1, rfl, (fun e he => absurd he (by simp)), fun _ => rfl⟩
  have I1 := I.laid (a := s.heap.objs.size) (o := .own (s.heap.objs.size + 1)) (h' := s.heap.push PySem.W.emptyDict) (t' := s.toks) (fun b u q => Heap.get?_push_of_some _ q) (Nat.le_refl _) ⟨_, e1⟩
  refine I1.laid (a := s.heap.objs.size + 1) (o := .ins C s.heap.objs.size []) (t' := s.toks) (fun b u q => Heap.get?_push_of_some _ q) (Nat.le_of_eq (Heap.size_push _ _)) ?_
  have ne : s.heap.objs.size ≠ s.heap.objs.size + 1 := Nat.ne_of_lt (Nat.lt_succ_self _)
  refine ⟨by rw [upd_ne ne, upd_same], Nat.zero_le _, ne, e2, fun _ => none, (Heap.Ns1.of_empty e3).at fun o q => Heap.get?_push_of_some _ q, fun _ => True.intro, fun y hy => absurd rfl hy⟩
theorem attr_of {prog : Program} {w : World} {env : Env} {e : Expr} {f : Str} {pos : Pos} {s : Shared} {Q : Value → Shared → Prop} (hb : attributeBase e f env (eval e env) = eval e env)
    (h : wpAny (model prog w) A (eval e env) (fun o s₁ => wpAny (model prog w) A (getAttr o f true) Q E s₁) E s) : wpAny (model prog w) A (eval (.Attribute e f pos) env) Q E s :=
  Attribute_any_ h (by rw [arm_eval_Attribute, hb])
end
def tFld (K : PySem.W.Frag) (ta : TE) (f : Str) : TE := fun σ H Q => ta σ H fun x H1 => ∃ a C dx fs v, x = .ref a ∧ H1 a = some (.ins C dx fs) ∧ Cls K C ∧ NoAttr K C f ∧ fs.lookup f = some v ∧ Q v H1
def tCon (K : PySem.W.Frag) (ta : TE) (f : Str) : TE := fun σ H Q => ta σ H fun x H1 => ∃ a C dx fs v u, x = .ref a ∧ H1 a = some (.ins C dx fs) ∧ Cls K C ∧ Con K C f v u ∧ fs.lookup f = none ∧ Q v H1
def sFld (K : PySem.W.Frag) (ta tv : TE) (f : Str) : TS := fun D σ H => tv σ H fun y H1 => ta σ H1 fun x H2 => ∃ a C dx fs, x = .ref a ∧ H2 a = some (.ins C dx fs) ∧ Cls K C ∧ NoAttr K C f ∧ fs.length < 1000 ∧
  D.nx σ (upd H2 a (.ins C dx (putF f y fs)))
def InOp (X : Cx) (op : Operator) (rd : V → V → Hp → VK → Prop) : Prop :=
  ∀ (pins : List (Addr × Obj)) (s : Shared) (σ : St) (H : Hp) (x y : V) (u v : Value) (Q : VK), Inv X pins σ H s → RelV x u → RelV y v → rd x y H Q → wpAny (model X.prog X.w) X.A (inplaceOp op u v) (EP X pins σ Q) X.xe s
def sFldAug (K : PySem.W.Frag) (ta tv : TE) (rd : V → V → Hp → VK → Prop) (f : Str) : TS := fun D σ H => ta σ H fun x H1 => ∃ a C dx fs v, x = .ref a ∧ H1 a = some (.ins C dx fs) ∧ Cls K C ∧ NoAttr K C f ∧ fs.lookup f = some v ∧
  tv σ H1 fun y H2 => rd v y H2 fun z H3 => ∃ dx' fs', H3 a = some (.ins C dx' fs') ∧ fs'.length < 1000 ∧ D.nx σ (upd H3 a (.ins C dx' (putF f z fs')))
section
variable {X : Cx} {o e value : Expr} {f : Str} {pos pos' tpos : Pos} {ta tv : TE}
theorem pe_fld (he : PE X e ta) (hb : attributeBase e f X.env (eval e X.env) = eval e X.env) : PE X (.Attribute e f pos) (tFld X.K ta f) := by
  intro pins s σ H Q I h
  refine attr_of hb (thn (he pins s σ H _ I h) fun u s1 ⟨x, H1, I1, rx, a, C, dx, fs, v, ex, ea, c, n, l, q⟩ => ?_)
  subst ex
  obtain rfl : u = Value.ref a := rx
  exact getattr_ok I1 ea c n l fun u' s2 I2 ru => ⟨v, H1, I2, ru, q⟩
theorem ps_fld (ha : PE X o ta) (hv : PE X value tv) (hs : swapsWith value (some (.Attribute o f pos')) pos.line X.env = pure false) : PS X (.Assign [.Attribute o f pos'] value pos) (sFld X.K ta tv f) := by
  intro pins s σ H D I h
  refine plainObj_wpAny_Assign_Attribute (thn (hv pins s σ H _ I h) fun u s1 ⟨y, H1, I1, ry, q⟩ => thn (ha pins s1 σ H1 _ I1 q) fun ov s2 ⟨x, H2, I2, rx, a, C, dx, fs, ex, ea, c, n, l, q2⟩ => ?_) hs
  subst ex
  obtain rfl : ov = Value.ref a := rx
  exact setattr_ok I2 ea c n l ry fun s3 I3 => ⟨σ, _, I3, q2⟩
def rAdd : V → V → Hp → VK → Prop := fun x y H Q => ∃ i j, x = .int i ∧ y = .int j ∧ Q (.int (i + j)) H
def rSub : V → V → Hp → VK → Prop := fun x y H Q => ∃ i j, x = .int i ∧ y = .int j ∧ Q (.int (i - j)) H
end
section
variable {X : Cx} {pins : List (Addr × Obj)} {σ : St} {H : Hp} {s : Shared} {A : Around} {E : Value → Shared → Prop} {Q : Value → Shared → Prop} {c : Value} {b : Bool}
inductive TyOf (K : PySem.W.Frag) (H : Hp) : V → Value → Prop where
  | non : TyOf K H .non (.type "NoneType")
  | bl (x : Bool) : TyOf K H (.bl x) (.type "bool")
  | int (i : Int) : TyOf K H (.int i) (.type "int")
  | str (x : Str) : TyOf K H (.str x) (.type "str")
  | flt (x : UInt64) : TyOf K H (.flt x) (.type "float")
  | lst {a : Addr} {xs : List V} (e : H a = some (.lst xs)) : TyOf K H (.ref a) (.type "list")
  | frz {a : Addr} {o : Obj} {xs : List V} (e : H a = some (.frz o (.lst xs))) : TyOf K H (.ref a) (.type "list")
  | tup {a : Addr} {xs : List V} (e : H a = some (.tup xs)) : TyOf K H (.ref a) (.type "tuple")
  | dK {a : Addr} {kvs : List (Key × V)} (e : H a = some (.dK kvs)) : TyOf K H (.ref a) (.type "dict")
  | dT {a : Addr} {kvs : List (List Key × V)} (e : H a = some (.dT kvs)) : TyOf K H (.ref a) (.type "dict")
  | ins {a C dx : Addr} {fs : List (Str × V)} (e : H a = some (.ins C dx fs)) (cl : Cls K C) (ha : PySem.W.findIn K (.ref C) "__class__" = some (some (.builtin "object.__class__")))
      (hn : PySem.W.specialIn K (.builtin "object.__class__") "__get__" = some (some (.builtin "getset_descriptor.__get__"))) (htk : PySem.W.takesIn K (.builtin "object.__class__") = some true)
      (hm : PySem.W.mroIn K C (.type "object") = some true) : TyOf K H (.ref a) (.ref C)
theorem isinst_ok {x : V} {u t : Value} (I : Inv X pins σ H s) (rx : RelV x u) (ty : TyOf X.K H x t) (e : PySem.W.kitOne X.K t c = some b) (h : ∀ tk, Q (.bool b) { s with toks := tk }) :
    wpAny (model X.prog X.w) A (call (.builtin "isinstance") [u, c]) Q E s := by
  cases ty with
  | non => cases (show u = Value.none from rx); exact PySem.W.kia_one PySem.W.kitx_none I.kIn True.intro e (fun z => nomatch z) h
  | bl y => cases (show u = Value.bool y from rx); exact PySem.W.kia_one PySem.W.kitx_bool I.kIn True.intro e (fun z => nomatch z) h
  | int i => obtain ⟨t, q⟩ := (show ∃ t, u = Value.int i t from rx); cases q; exact PySem.W.kia_one PySem.W.kitx_int I.kIn True.intro e (fun z => nomatch z) h
  | str y => obtain ⟨t, q⟩ := (show ∃ t, u = Value.str y t from rx); cases q; exact PySem.W.kia_one PySem.W.kitx_str I.kIn True.intro e (fun z => nomatch z) h
  | flt y => obtain ⟨t, q⟩ := (show ∃ t, u = Value.float y t from rx); cases q; exact PySem.W.kia_one PySem.W.kitx_float I.kIn True.intro e (fun z => nomatch z) h
  | @lst a xs ea =>
    cases (show u = Value.ref a from rx)
    obtain ⟨_, _, n, _, h1⟩ := (show ObjOk X.prog X.w H s.heap a (.lst xs) from I.hok a _ ea)
    exact PySem.W.kia_one PySem.W.kitx_list I.kIn ⟨_, h1, rfl⟩ e (fun z => nomatch z) h
  | @frz a ob xs ea =>
    cases (show u = Value.ref a from rx)
    obtain ⟨_, _, _, n, _, h1⟩ := (show ObjOk X.prog X.w H s.heap a (.frz ob (.lst xs)) from I.hok a _ ea)
    exact PySem.W.kia_one PySem.W.kitx_list I.kIn ⟨_, h1, rfl⟩ e (fun z => nomatch z) h
  | @tup a xs ea =>
    cases (show u = Value.ref a from rx)
    obtain ⟨_, _, _, p⟩ := (show ObjOk X.prog X.w H s.heap a (.tup xs) from I.hok a _ ea)
    obtain ⟨o, h1, h2, _⟩ := p
    exact PySem.W.kia_one PySem.W.kitx_tuple I.kIn ⟨o, h1, h2⟩ e (fun z => nomatch z) h
  | @dK a kvs ea =>
    cases (show u = Value.ref a from rx)
    obtain ⟨_, _, vs, _, p⟩ := (show ObjOk X.prog X.w H s.heap a (.dK kvs) from I.hok a _ ea)
    obtain ⟨o, es, ep, h1, h2, _⟩ := p
    exact PySem.W.kia_one PySem.W.kitx_dict I.kIn ⟨o, h1, h2.1⟩ e (fun z => nomatch z) h
  | @dT a kvs ea =>
    cases (show u = Value.ref a from rx)
    obtain ⟨_, _, xs, _, o, es, ep, h1, h2, _⟩ := (show ObjOk X.prog X.w H s.heap a (.dT kvs) from I.hok a _ ea)
    exact PySem.W.kia_one PySem.W.kitx_dict I.kIn ⟨o, h1, h2.1⟩ e (fun z => nomatch z) h
  | @ins a C dx fs ea cl ha hn htk hm =>
    cases (show u = Value.ref a from rx)
    obtain ⟨mA, O, _⟩ := ins_get I.hok ea
    obtain ⟨od, J, _⟩ := O.look
    exact PySem.W.kia_one (PySem.W.kitx_own (cl.get _) cl.hd ha hn htk hm) I.kIn J e (fun z => nomatch z) h
end
end L2
namespace L2
open PySem PySem.Spec PyProof.Rows
structure Room (k : Nat) (A : Around) : Prop where
  hd : A.handled = none
  dp : A.depth + 3 * k + 5 < recursionLimit
  un : A.units + 16 * k + 200 < cLine
theorem Room.mono {j k : Nat} {A : Around} (r : Room k A) (h : j ≤ k) : Room j A := ⟨r.hd, by have := r.dp; omega, by have := r.un; omega⟩
theorem Room.deeper {k : Nat} {A : Around} (r : Room (k + 1) A) (env : Env) : Room k (A.deeper env) :=
  ⟨r.hd, by have := r.dp; show A.depth + 1 + 3 * k + 5 < _; omega, by have := r.un; show A.units + 3 + 16 * k + 200 < _; omega⟩
theorem make_depth {A : Around} {C : Addr} {us : List Value} {kw : List (Str × Value)} : (A.under (.builtin "type.__call__" ⟨.ref C :: us, kw⟩)).depth = A.depth + 1 := by
  first | rfl | simp [Around.under, Code.weight, Code.isCreation, Code.isGuard, Code.isCaller, Code.frames, Code.isFrame, guardIds]
theorem make_units {A : Around} {C : Addr} {us : List Value} {kw : List (Str × Value)} : (A.under (.builtin "type.__call__" ⟨.ref C :: us, kw⟩)).units = A.units + 1 := by
  first | rfl | simp [Around.under, Code.cUnits, Code.frames, Code.isFrame]
theorem Room.make {k : Nat} {A : Around} (r : Room (k + 1) A) (C : Addr) (us : List Value) (kw : List (Str × Value)) : Room k (A.under (.builtin "type.__call__" ⟨.ref C :: us, kw⟩)) :=
  ⟨r.hd, by have := r.dp; rw [make_depth]; omega, by have := r.un; rw [make_units]; omega⟩
theorem Room.depth {k : Nat} {A : Around} (r : Room k A) : A.depth < recursionLimit := by have := r.dp; omega
theorem Room.units {k : Nat} {A : Around} (r : Room k A) : A.units + 64 < cLine := by have := r.un; omega
def tNil : TA := fun _ H Q => Q [] H
def tCons (ta : TE) (tr : TA) : TA := fun σ H Q => ta σ H fun x H1 => tr σ H1 fun xs H2 => Q (x :: xs) H2
section
variable {X : Cx} {e : Expr} {es : List Expr} {te : TE} {t : TA} {pos : Pos}
theorem pa_nil : PA X [] tNil := fun _ _ _ _ H Q I h => Calls.spliced_nil ⟨[], H, I, .nil, h⟩
theorem pa_cons (ha : PE X e te) (hr : PA X es t) (hs : starEach (e :: es) X.env = (false, eval e X.env) :: starEach es X.env := by rfl) : PA X (e :: es) (tCons te t) := by
  intro pos pins s σ H Q I h
  rw [hs]
  show wpAny _ _ (spliced ((false, eval e X.env) :: backTo pos (starEach es X.env))) _ _ s
  refine Calls.spliced_cons (thn (ha pins s σ H _ I h) fun u s1 ⟨x, H1, I1, r1, q1⟩ => ?_)
  exact thn (hr pos pins s1 σ H1 _ I1 q1) fun us s2 ⟨xs, H2, I2, r2, q2⟩ => ⟨x :: xs, H2, I2, .cons r1 r2, q2⟩
def tTup (t : TA) : TE := fun σ H Q => t σ H fun xs H1 => xs.length ≤ sizeLine ∧ ∀ p, H1 p = none → Q (.ref p) (upd H1 p (.tup xs))
def tLst (t : TA) : TE := fun σ H Q => t σ H fun xs H1 => xs.length ≤ sizeLine ∧ ∀ p, H1 p = none → Q (.ref p) (upd H1 p (.lst xs))
theorem pe_tup {x1} (h : PA X es t) : PE X (.Tuple es x1 pos) (tTup t) := by
  intro pins s σ H Q I hq
  refine wpAny_Tuple_spliced (thn (h pos pins s σ H _ I hq) fun us s1 ⟨xs, H1, I1, r, z, q⟩ => ⟨by rw [← r.length]; exact z, ?_⟩)
  have hf : H1 s1.heap.objs.size = none := I1.hok.fresh (Nat.le_refl _)
  refine ⟨.ref s1.heap.objs.size, upd H1 s1.heap.objs.size (.tup xs), I1.laid (t' := s1.toks) (fun b u e => Heap.get?_push_of_some _ e) (Nat.le_refl _) ?_, rfl, q _ hf⟩
  exact ⟨z, us, r, ⟨_, Heap.get?_push_size _ rfl, rfl, _, rfl⟩⟩
theorem pe_lst (h : PA X es t) : PE X (.List es pos) (tLst t) := by
  intro pins s σ H Q I hq
  refine wpAny_List_spliced (thn (h pos pins s σ H _ I hq) fun us s1 ⟨xs, H1, I1, r, z, q⟩ => ⟨by rw [← r.length]; exact z, ?_⟩)
  have hf : H1 s1.heap.objs.size = none := I1.hok.fresh (Nat.le_refl _)
  refine ⟨.ref s1.heap.objs.size, upd H1 s1.heap.objs.size (.lst xs), I1.laid (t' := s1.toks) (fun b u e => Heap.get?_push_of_some _ e) (Nat.le_refl _) ?_, rfl, q _ hf⟩
  exact ⟨z, us, 0, r, Heap.get?_push_size _ rfl⟩
end
abbrev Sp := List V → Hp → VK → XK → Prop
abbrev CXT := List Env → Hp → Shared → XK → Value → Shared → Prop
structure Env0 (P : Program) (w : World) (K : PySem.W.Frag) (mg : Str → Option Value) (base : Heap) (A : Around) (outer : List Env) (s : Shared) (H : Hp) : Prop where
  frames : A.frames = some outer
  mod : Mod K mg base
  bs : ∀ b o, base.get? b = some o → s.heap.get? b = some o ∧ H b = none
  bsz : base.objs.size ≤ s.heap.objs.size
  funs : s.heap.FunFrames base outer
  frf : ∀ b ∈ frs outer, H b = none
  hok : HOk P w H s.heap
  bare : AllBare s.gens
def CE (outer : List Env) (P : Program) (w : World) (H : Hp) (s : Shared) (Q : VK) (u : Value) (s' : Shared) : Prop :=
  ∃ v H', s'.os = s.os ∧ AllBare s'.gens ∧ Un (frs outer) [] H H' s.heap s'.heap ∧ HOk P w H' s'.heap ∧ RelV v u ∧ Q v H'
def CR (CX : CXT) (outer : List Env) (P : Program) (w : World) (H : Hp) (s : Shared) (Q : VK) (E : XK) (r : Result) (s' : Shared) : Prop :=
  match r with
  | .ok (.ret u) => CE outer P w H s Q u s'
  | .ok _ => False
  | .error e => CX outer H s E e s'
structure FnOk (P : Program) (w : World) (K : PySem.W.Frag) (mg : Str → Option Value) (base : Heap) (CX : CXT) (k : Nat) (f : Addr) (fd : FuncData) (ps : List Str) (sp : Sp) : Prop where
  len : ∀ vs H Q E, sp vs H Q E → vs.length = ps.length
  run : ∀ (A : Around) (outer : List Env) (s : Shared) (H : Hp) (args : Args) (us : List Value) (vs : List V) (Q : VK) (E : XK), Room k A → Env0 P w K mg base A outer s H → BindsTo s fd args (ps.zip us) → Vals vs us → sp vs H Q E →
    codeAny (model P w) A (.call (.ref f) args) (CR CX outer P w H s Q E) s
theorem FnOk.mono {P : Program} {w : World} {K : PySem.W.Frag} {mg : Str → Option Value} {base : Heap} {CX : CXT} {j k : Nat} {f : Addr} {fd : FuncData} {ps : List Str} {sp : Sp} (F : FnOk P w K mg base CX j f fd ps sp) (h : j ≤ k) :
    FnOk P w K mg base CX k f fd ps sp := ⟨F.len, fun A outer s H args us vs Q E hr => F.run A outer s H args us vs Q E (hr.mono h)⟩
theorem Env0.make {P : Program} {w : World} {K : PySem.W.Frag} {mg : Str → Option Value} {base : Heap} {A : Around} {outer : List Env} {s : Shared} {H : Hp} (e : Env0 P w K mg base A outer s H) (C : Addr) (us : List Value) (kw : List (Str × Value)) :
    Env0 P w K mg base (A.under (.builtin "type.__call__" ⟨.ref C :: us, kw⟩)) outer s H := ⟨by first | exact e.frames | (simpa [Around.under, Code.envs, Code.isFrame, pushEnvs] using e.frames), e.mod, e.bs, e.bsz, e.funs, e.frf, e.hok, e.bare⟩
section
variable {X : Cx} {pins : List (Addr × Obj)} {σ : St} {H : Hp} {s s' : Shared}
theorem Inv.env0 (I : Inv X pins σ H s) : Env0 X.prog X.w X.K X.mg X.base X.A X.stack s H :=
  ⟨I.ok.frames, I.ok.mod, I.bs, Nat.le_trans I.ok.bsz I.sz, I.stack, I.stkFree, I.hok, I.bare⟩
theorem Inv.after {Q : VK} {u : Value} (I : Inv X pins σ H s) (h : CE X.stack X.prog X.w H s Q u s') : EP X pins σ Q u s' := by
  obtain ⟨v, H', os, bare, un, hok, r, q⟩ := h
  obtain ⟨hh, g, d, t, os'⟩ := s'
  obtain rfl : os' = s.os := os
  exact ⟨v, H', I.call (h' := hh) (g' := g) (d' := d) (t' := t) (ch := []) un hok bare (fun b z => absurd z (by simp)), r, q⟩
end
def tCall (sp : Sp) (dvs : List V) (E : XK) (t : TA) : TE := fun σ H Q => t σ H fun vs H1 => sp (vs ++ dvs) H1 Q E
def tMeth (C : Addr) (m : Str) (sp : Sp) (dvs : List V) (E : XK) (ta : TE) (t : TA) : TE := fun σ H Q => ta σ H fun x H1 => ∃ a dx fs, x = .ref a ∧ H1 a = some (.ins C dx fs) ∧ fs.lookup m = none ∧
  t σ H1 fun vs H2 => sp (x :: (vs ++ dvs)) H2 Q E
def tMake (C : Addr) (sp : Sp) (dvs : List V) (E : XK) (t : TA) : TE := fun σ H Q => t σ H fun vs H1 => ∀ x dx, H1 x = none → H1 dx = none → dx ≠ x →
  sp (.ref x :: (vs ++ dvs)) (upd (upd H1 dx (.own x)) x (.ins C dx [])) (fun v H2 => v = .non ∧ Q (.ref x) H2) E
def Binds (K : PySem.W.Frag) (fd : FuncData) (ps : List Str) (ds : List Value) : Prop :=
  ∀ (s : Shared) (us : List Value), K.In s.heap → (us ++ ds).length = ps.length → BindsTo s fd ⟨us, []⟩ (ps.zip (us ++ ds))
theorem Binds.all {K : PySem.W.Frag} {fd : FuncData} {ps : List Str} (h : ∀ us : List Value, us.length = ps.length → bindArgs fd ⟨us, []⟩ = pure (ps.zip us)) : Binds K fd ps [] := fun s us _ hl => by
  rw [List.append_nil] at hl ⊢
  exact .of_eq (h us hl)
def Passes (CX : CXT) (X : Cx) (E : XK) : Prop := ∀ (pins : List (Addr × Obj)) (σ : St) (H : Hp) (s : Shared) (e : Value) (s' : Shared), Inv X pins σ H s → CX X.stack H s E e s' → X.xe e s'
section
variable {X : Cx} {CX : CXT} {k : Nat} {f C : Addr} {fd : FuncData} {ps : List Str} {sp : Sp} {dvs : List V} {ds : List Value} {E : XK} {x m : Str} {p pos apos : Pos} {e o : Expr} {es : List Expr} {ta : TE} {t : TA}
theorem run_fn {pins : List (Addr × Obj)} {σ : St} {H : Hp} {s : Shared} {Q : VK} {us : List Value} {vs : List V} (F : FnOk X.prog X.w X.K X.mg X.base CX k f fd ps sp) (hr : Room k X.A) (hb : Binds X.K fd ps ds) (hd : Vals dvs ds) (hx : Passes CX X E)
    (I : Inv X pins σ H s) (r : Vals vs us) (h : sp (vs ++ dvs) H Q E) : wpAny (model X.prog X.w) X.A (call (.ref f) us) (EP X pins σ Q) X.xe s := by
  have r2 : Vals (vs ++ dvs) (us ++ ds) := r.append hd
  have hl : (us ++ ds).length = ps.length := by rw [← r2.length]; exact F.len _ _ _ _ h
  refine wpAny_call (codeAny_mono (F.run X.A X.stack s H ⟨us, []⟩ (us ++ ds) (vs ++ dvs) Q E hr I.env0 (hb s us I.kIn hl) r2 h) fun r s' hq => ?_)
  cases r with
  | error e => exact hx pins σ H s e s' I hq
  | ok fl =>
    cases fl with
    | ret u => exact I.after hq
    | next => exact False.elim hq
    | brk => exact False.elim hq
    | cont => exact False.elim hq
theorem pe_call (F : FnOk X.prog X.w X.K X.mg X.base CX k f fd ps sp) (hr : Room k X.A) (hg : Gl X x) (hm : X.mg x = some (.ref f)) (hk : PySem.W.keepIn X.K (.ref f) = true) (hb : Binds X.K fd ps ds) (hd : Vals dvs ds) (hx : Passes CX X E)
    (ha : PA X (e :: es) t) (hdb : (x == ("__debug__" : Str)) = false := by decide) (he : starEach (e :: es) X.env = (false, eval e X.env) :: starEach es X.env := by rfl) (hpl : (backTo pos (starEach es X.env)).any (·.1) = false := by rfl) :
    PE X (.Call (.Name x p) (e :: es) [] pos) (tCall sp dvs E t) := by
  intro pins s σ H Q I h
  refine wpAny_Call_Name_kw (ld_glob I hg hm ?_ hdb)
  refine PySem.W.callWith_K (h₀ := X.base) I.ok.mod.kin hk (thn (ha pos pins s σ H _ I h) fun us s1 ⟨vs, H1, I1, r, q⟩ => ⟨I1.kIn, ?_⟩) he hpl
  exact run_fn F hr hb hd hx I1 r q
theorem pe_meth {pl : Sem Bool} (he : PE X o ta) (c : Cls X.K C) (hm : Meth X.K C m f) (F : FnOk X.prog X.w X.K X.mg X.base CX k f fd ps sp) (hr : Room k X.A) (hb : Binds X.K fd ps ds) (hd : Vals dvs ds) (hx : Passes CX X E) (ha : PA X (e :: es) t)
    (hst : starEach (e :: es) X.env = (false, eval e X.env) :: starEach es X.env := by rfl) (hpl : (backTo pos (starEach es X.env)).any (·.1) = false := by rfl)
    (ht : eval (.Call (.Attribute o m apos) (e :: es) [] pos) X.env = (do
      let ov ← eval o X.env
      standAt apos.atName
      let (f, first) ← holding [ov] (getMethod ov m pl)
      callWith pos f first (backTo pos (starEach (e :: es) X.env)) (backToKw pos (keywordEach [] X.env))) := by rfl) :
    PE X (.Call (.Attribute o m apos) (e :: es) [] pos) (tMeth C m sp dvs E ta t) := by
  intro pins s σ H Q I h
  refine PySem.W.methodCall_KW (pl := pl) (thn (he pins s σ H _ I h) fun u s1 ⟨x, H1, I1, rx, a, dx, fs, ex, ea, l, q⟩ => ?_) ht
  subst ex
  obtain rfl : u = Value.ref a := rx
  refine getmeth_ok I1 ea c hm l ?_
  refine PySem.W.callWith_K (first := [.ref a]) (h₀ := X.base) I.ok.mod.kin hm.kp (thn (ha pos pins s1 σ H1 _ I1 q) fun us s2 ⟨vs, H2, I2, r, q2⟩ => ⟨I2.kIn, ?_⟩) hst hpl
  exact run_fn (us := .ref a :: us) (vs := .ref a :: vs) F hr hb hd hx I2 (.cons rfl r) q2
theorem pe_meth0 {pl : Sem Bool} (he : PE X o ta) (c : Cls X.K C) (hm : Meth X.K C m f) (F : FnOk X.prog X.w X.K X.mg X.base CX k f fd ps sp) (hr : Room k X.A) (hb : Binds X.K fd ps ds) (hd : Vals dvs ds) (hx : Passes CX X E)
    (ht : eval (.Call (.Attribute o m apos) [] [] pos) X.env = (do
      let ov ← eval o X.env
      standAt apos.atName
      let (f, first) ← holding [ov] (getMethod ov m pl)
      callWith pos f first (backTo pos (starEach [] X.env)) (backToKw pos (keywordEach [] X.env))) := by rfl) :
    PE X (.Call (.Attribute o m apos) [] [] pos) (tMeth C m sp dvs E ta tNil) := by
  intro pins s σ H Q I h
  refine PySem.W.methodCall_KW (pl := pl) (thn (he pins s σ H _ I h) fun u s1 ⟨x, H1, I1, rx, a, dx, fs, ex, ea, l, q⟩ => ?_) ht
  subst ex
  obtain rfl : u = Value.ref a := rx
  refine getmeth_ok I1 ea c hm l ?_
  exact PySem.W.callWith_K0 (first := [.ref a]) I1.kIn hm.kp (run_fn (us := [.ref a]) (vs := [.ref a]) F hr hb hd hx I1 (.cons rfl .nil) q)
structure Mk (K : PySem.W.Frag) (C f : Addr) : Prop where
  makes : PySem.W.makesIn K C = true
  init : PySem.W.findIn K (.ref C) "__init__" = some (some (.ref f))
  fn : PySem.W.isFn K (.ref f) = true
  kp : PySem.W.keepIn K (.ref C) = true
theorem run_make {pins : List (Addr × Obj)} {σ : St} {H : Hp} {s : Shared} {Q : VK} {us : List Value} {vs : List V} (M : Mk X.K C f) (F : FnOk X.prog X.w X.K X.mg X.base CX k f fd ps sp) (hr : Room (k + 1) X.A) (hb : Binds X.K fd ps ds) (hd : Vals dvs ds)
    (hx : Passes CX X E) (I : Inv X pins σ H s) (r : Vals vs us)
    (h : ∀ x dx, H x = none → H dx = none → dx ≠ x → sp (.ref x :: (vs ++ dvs)) (upd (upd H dx (.own x)) x (.ins C dx [])) (fun v H2 => v = .non ∧ Q (.ref x) H2) E) :
    wpAny (model X.prog X.w) X.A (call (.ref C) us) (EP X pins σ Q) X.xe s := by
  have hq := h (s.heap.objs.size + 1) s.heap.objs.size (I.hok.fresh (Nat.le_succ _)) (I.hok.fresh (Nat.le_refl _)) (Nat.ne_of_lt (Nat.lt_succ_self _))
  have I2 := Inv.made (C := C) I
  have r2 : Vals (V.ref (s.heap.objs.size + 1) :: (vs ++ dvs)) (Value.ref (s.heap.objs.size + 1) :: (us ++ ds)) := .cons rfl (r.append hd)
  have hl : (Value.ref (s.heap.objs.size + 1) :: us ++ ds).length = ps.length := by
    have e := r2.length
    rw [F.len _ _ _ _ hq] at e
    exact e.symm
  refine wpAny_call (make_map (f := f) I.kIn M.makes M.init (beq_iff_eq.mp M.fn) (codeAny_mono (F.run _ X.stack _ _ ⟨Value.ref (s.heap.objs.size + 1) :: us, []⟩ (Value.ref (s.heap.objs.size + 1) :: (us ++ ds)) _ _ E (hr.make C us [])
    (I2.env0.make C us []) (hb _ (Value.ref (s.heap.objs.size + 1) :: us) I2.kIn hl) r2 hq) fun r s' hq' => ?_))
  cases r with
  | error e => exact hx pins σ _ _ e s' I2 hq'
  | ok fl =>
    cases fl with
    | ret u =>
      obtain ⟨v, H', I3, rv, ev, q3⟩ := I2.after hq'
      subst ev
      exact ⟨rv, ⟨V.ref (s.heap.objs.size + 1), H', I3, rfl, q3⟩⟩
    | next => exact False.elim hq'
    | brk => exact False.elim hq'
    | cont => exact False.elim hq'
theorem pe_make (M : Mk X.K C f) (F : FnOk X.prog X.w X.K X.mg X.base CX k f fd ps sp) (hr : Room (k + 1) X.A) (hg : Gl X x) (hm : X.mg x = some (.ref C)) (hb : Binds X.K fd ps ds) (hd : Vals dvs ds) (hx : Passes CX X E)
    (ha : PA X (e :: es) t) (hdb : (x == ("__debug__" : Str)) = false := by decide) (he : starEach (e :: es) X.env = (false, eval e X.env) :: starEach es X.env := by rfl) (hpl : (backTo pos (starEach es X.env)).any (·.1) = false := by rfl) :
    PE X (.Call (.Name x p) (e :: es) [] pos) (tMake C sp dvs E t) := by
  intro pins s σ H Q I h
  refine wpAny_Call_Name_kw (ld_glob I hg hm ?_ hdb)
  refine PySem.W.callWith_K (h₀ := X.base) I.ok.mod.kin M.kp (thn (ha pos pins s σ H _ I h) fun us s1 ⟨vs, H1, I1, r, q⟩ => ⟨I1.kIn, ?_⟩) he hpl
  exact run_make M F hr hb hd hx I1 r q
theorem pe_make0 (M : Mk X.K C f) (F : FnOk X.prog X.w X.K X.mg X.base CX k f fd ps sp) (hr : Room (k + 1) X.A) (hg : Gl X x) (hm : X.mg x = some (.ref C)) (hb : Binds X.K fd ps ds) (hd : Vals dvs ds) (hx : Passes CX X E)
    (hdb : (x == ("__debug__" : Str)) = false := by decide) : PE X (.Call (.Name x p) [] [] pos) (tMake C sp dvs E tNil) := by
  intro pins s σ H Q I h
  refine wpAny_Call_Name_kw (ld_glob I hg hm ?_ hdb)
  exact PySem.W.callWith_K0 I.kIn M.kp (run_make (us := []) M F hr hb hd hx I .nil h)
end
def PK (X : Cx) (kws : List Keyword) (t : TA) : Prop :=
  ∀ (pos : Pos) (pins : List (Addr × Obj)) (s : Shared) (σ : St) (H : Hp) (Q : List V → Hp → Prop), Inv X pins σ H s → t σ H Q → wpAny (model X.prog X.w) X.A (evalAll ((backToKw pos (keywordEach kws X.env)).map (·.2))) (AP X pins σ Q) X.xe s
section
variable {X : Cx} {CX : CXT} {k : Nat} {f C : Addr} {fd : FuncData} {ps ks : List Str} {sp : Sp} {E : XK} {x m : Str} {p pos apos kpos : Pos} {e o : Expr} {es : List Expr} {kws : List Keyword} {te ta : TE} {t tk : TA} {nm : Option Str}
theorem pk_nil : PK X [] tNil := fun _ _ _ _ H Q I h => wpAny_evalAll_nil ⟨[], H, I, .nil, h⟩
theorem pk_cons (ha : PE X e te) (hr : PK X kws t) : PK X (⟨nm, e, kpos⟩ :: kws) (tCons te t) := by
  intro pos pins s σ H Q I h
  show wpAny _ _ (evalAll ((do let v ← eval e X.env; standAt pos; pure v) :: (backToKw pos (keywordEach kws X.env)).map (·.2))) _ _ s
  refine wpAny_evalAll_cons (wpAny_bind (thn (ha pins s σ H _ I h) fun u s1 ⟨x, H1, I1, r1, q1⟩ => wpAny_bind (wpAny_standAt (wpAny_pure ?_))))
  exact thn (hr pos pins s1 σ H1 _ I1 q1) fun us s2 ⟨xs, H2, I2, r2, q2⟩ => ⟨x :: xs, H2, I2, .cons r1 r2, q2⟩
structure KBinds (K : PySem.W.Frag) (fd : FuncData) (ps ks : List Str) (g : List Value → List Value → List Value) (gV : List V → List V → List V) : Prop where
  to : ∀ (s : Shared) (us ws : List Value), K.In s.heap → (g us ws).length = ps.length → BindsTo s fd ⟨us, ks.zip ws⟩ (ps.zip (g us ws))
  rel : ∀ {vs : List V} {us : List Value} {zs : List V} {ws : List Value}, Vals vs us → Vals zs ws → Vals (gV vs zs) (g us ws)
def tCallK (sp : Sp) (gV : List V → List V → List V) (E : XK) (t tk : TA) : TE := fun σ H Q => t σ H fun vs H1 => tk σ H1 fun zs H2 => sp (gV vs zs) H2 Q E
variable {g : List Value → List Value → List Value} {gV : List V → List V → List V}
end
structure FnScope (N P : List Str) (sc : Scope) : Prop where
  kind : sc.kind = .function
  co : sc.isCoroutine = false
  gen : sc.isGenerator = false
  nd : N.Nodup
  pre : N.take P.length = P
  par : ∀ x ∈ P, sc.names.lookup x = some .local ∨ sc.names.lookup x = some .cell
  nofree : ∀ y ∈ sc.names, y.2 ≠ .free
theorem bindL_out {kindOf : Str → Option NameKind} {x : Str} : ∀ {binds : List (Str × Value)} {m : Str → Option Value}, (∀ v, (x, v) ∉ binds) → bindL kindOf binds m x = m x
  | [], _, _ => rfl
  | (n, v) :: r, m, h => by
    unfold bindL
    rw [bindL_out fun w hw => h w (List.mem_cons_of_mem _ hw)]
    split
    · have : x ≠ n := by rintro rfl; exact h v List.mem_cons_self
      simp [this]
    · rfl
theorem bindC_out {kindOf : Str → Option NameKind} {x : Str} : ∀ {binds : List (Str × Value)} {m : Str → Option Value}, (∀ v, (x, v) ∉ binds) → bindC kindOf binds m x = m x
  | [], _, _ => rfl
  | (n, v) :: r, m, h => by
    unfold bindC
    rw [bindC_out fun w hw => h w (List.mem_cons_of_mem _ hw)]
    split
    · rfl
    · have : x ≠ n := by rintro rfl; exact h v List.mem_cons_self
      simp [this]
theorem bindL_get {kindOf : Str → Option NameKind} {x : Str} {v : Value} : ∀ {P : List Str} {vs : List Value} {i : Nat} {m : Str → Option Value}, P.Nodup → P[i]? = some x → vs[i]? = some v → kindOf x = some .local →
    bindL kindOf (P.zip vs) m x = some v
  | [], _, _, _, _, h, _, _ => by simp at h
  | _ :: _, [], _, _, _, _, h, _ => by simp at h
  | p :: P, w :: vs, 0, m, nd, h1, h2, hk => by
    simp at h1 h2; subst h1; subst h2
    show bindL kindOf ((p, w) :: P.zip vs) m p = _
    unfold bindL
    rw [bindL_out fun v hv => (List.nodup_cons.mp nd).1 (List.of_mem_zip hv).1, if_pos hk]
    simp
  | p :: P, w :: vs, i + 1, m, nd, h1, h2, hk => by
    show bindL kindOf ((p, w) :: P.zip vs) m x = _
    unfold bindL
    exact bindL_get (i := i) (List.nodup_cons.mp nd).2 (by simpa using h1) (by simpa using h2) hk
theorem bindC_get {kindOf : Str → Option NameKind} {x : Str} {v : Value} : ∀ {P : List Str} {vs : List Value} {i : Nat} {m : Str → Option Value}, P.Nodup → P[i]? = some x → vs[i]? = some v → kindOf x ≠ some .local →
    bindC kindOf (P.zip vs) m x = some v
  | [], _, _, _, _, h, _, _ => by simp at h
  | _ :: _, [], _, _, _, _, h, _ => by simp at h
  | p :: P, w :: vs, 0, m, nd, h1, h2, hk => by
    simp at h1 h2; subst h1; subst h2
    show bindC kindOf ((p, w) :: P.zip vs) m p = _
    unfold bindC
    rw [bindC_out fun v hv => (List.nodup_cons.mp nd).1 (List.of_mem_zip hv).1, if_neg hk]
    simp
  | p :: P, w :: vs, i + 1, m, nd, h1, h2, hk => by
    show bindC kindOf ((p, w) :: P.zip vs) m x = _
    unfold bindC
    exact bindC_get (i := i) (List.nodup_cons.mp nd).2 (by simpa using h1) (by simpa using h2) hk
def start (N : List Str) (vs : List V) : St := vs.map some ++ List.replicate (N.length - vs.length) none
def cxOf (CX : CXT) (P : Program) (w : World) (K : PySem.W.Frag) (mg : Str → Option Value) (base : Heap) (N : List Str) (qual : Str) (scope : Scope) (f : Addr) (cd : Value) (A : Around) (outer : List Env) (s : Shared) (H : Hp) (E : XK) : Cx where
  prog := P
  w := w
  K := K
  mg := mg
  base := base
  A := A.deeper (envOfC qual scope s.heap.objs.size f cd)
  N := N
  s₀ := s
  H₀ := H
  env := envOfC qual scope s.heap.objs.size f cd
  outer := outer
  stack := envOfC qual scope s.heap.objs.size f cd :: outer
  ex := []
  calm := true
  fn := fun _ => true
  pn := []
  xe := fun e s' => wpAny (model P w) (A.deeper (envOfC qual scope s.heap.objs.size f cd)) (leaving (envOfC qual scope s.heap.objs.size f cd) e) (fun _ s'' => CX outer H s E e s'') (fun e' s'' => CX outer H s E e' s'') s'
theorem cell_has {sc : Scope} {n : Nat} {x : Str} (h : sc.names.lookup x = some .cell) : ∃ c, (cellsFrom n sc.names []).lookup x = some c := by
  have q := PySem.W.cellsFrom_some sc.names n [] (.inl h)
  exact Option.isSome_iff_exists.mp q
theorem inv_start {CX : CXT} {P : Program} {w : World} {K : PySem.W.Frag} {mg : Str → Option Value} {base : Heap} {N ps : List Str} {qual : Str} {scope : Scope} {f : Addr} {cd : Value} {A : Around} {outer : List Env} {s s1 : Shared} {H : Hp} {E : XK} {us : List Value} {vs : List V}
    (S : FnScope N ps scope) (hd : A.handled = none) (e0 : Env0 P w K mg base A outer s H) (hl : vs.length = ps.length) (r : Vals vs us)
    (x : InCallC s s.heap.objs.size (bindL (envOfC qual scope s.heap.objs.size f cd).kindOf (ps.zip us) fun _ => none) (cellsFrom (s.heap.objs.size + 1) scope.names []) (bindC (envOfC qual scope s.heap.objs.size f cd).kindOf (ps.zip us) fun _ => none) s1) :
    Inv (cxOf CX P w K mg base N qual scope f cd A outer s H E) [] (start N vs) H s1 := by
  have hpl : ps.length ≤ N.length := by have := congrArg List.length S.pre; rw [List.length_take] at this; omega
  obtain ⟨h1, tk, rfl, hk⟩ := x.done
  have noA : ∀ b : Addr, b ∉ (cxOf CX P w K mg base N qual scope f cd A outer s H E).ex := fun b z => absurd (show b ∈ ([] : List Addr) from z) (by simp)
  refine ⟨⟨e0.mod, S.kind, rfl, rfl, Nat.le_refl _, fun y z c h1 h2 => ?_, fun y hy => ?_, fun y c _ h => ?_, fun _ => hd, Around.frames_deeper e0.frames, .inr ⟨rfl, rfl⟩, fun b z => absurd z (noA b), e0.bs, e0.bsz, fun b _ _ => noA b, fun b z => absurd z (noA b), e0.funs, e0.frf⟩,
    rfl, e0.bare, Un.kept hk, ⟨_, x.toInCall.ns, fun i y v h1 h2 h3 => ?_⟩, fun y c h => ⟨_, x.cell y c h⟩, e0.hok.fresh (Nat.le_refl _), fun y c h => ?_, fun p hp => absurd (show p ∈ ([] : List (Addr × Obj)) from hp) (by simp), e0.hok.kept hk, ?_⟩
  · exact name_of_addr x.apart (PySem.mem_of_lookup h1) (PySem.mem_of_lookup h2)
  · have hy : scope.names.lookup y = some .cell ∨ scope.names.lookup y = some .free := hy
    rcases hy with hy | hy
    · exact cell_has hy
    · exact absurd rfl (S.nofree _ (PySem.mem_of_lookup hy))
  · exact Nat.le_of_lt (x.above y c (PySem.mem_of_lookup h))
  · have hi : i < vs.length := by
      unfold start at h2
      by_cases hi : i < vs.length
      · exact hi
      · rw [List.getElem?_append_right (by simpa using hi)] at h2
        rw [List.getElem?_replicate] at h2
        split at h2 <;> cases h2
    have ha : vs[i]? = some v := by
      unfold start at h2
      rw [List.getElem?_append_left (by simpa using hi), List.getElem?_map] at h2
      cases e : vs[i]? with
      | none => rw [e] at h2; cases h2
      | some a => rw [e] at h2; cases h2; rfl
    obtain ⟨u, hu, rv⟩ := r.get ha
    have hp : ps[i]? = some y := by
      rw [← S.pre, List.getElem?_take_of_lt (by omega)]; exact h1
    have ndP : ps.Nodup := by rw [← S.pre]; exact S.nd.sublist (List.take_sublist _ _)
    refine ⟨u, rv, ?_⟩
    rcases S.par y (List.mem_of_getElem? hp) with k | k
    · exact .inl ⟨k, bindL_get ndP hp hu k⟩
    · obtain ⟨c, e⟩ := cell_has (n := s.heap.objs.size + 1) k
      refine .inr ⟨.inl k, c, e, ?_⟩
      have q := x.cell y c e
      rw [bindC_get ndP hp hu (by show scope.names.lookup y ≠ _; rw [k]; decide)] at q
      exact q
  · exact e0.hok.fresh (Nat.le_of_lt (x.above y c (PySem.mem_of_lookup h)))
  · unfold start
    show _ = N.length
    rw [List.length_append, List.length_map, List.length_replicate]
    omega
theorem fn_of {CX : CXT} {P : Program} {w : World} {K : PySem.W.Frag} {mg : Str → Option Value} {base : Heap} {k : Nat} {f : Addr} {name qual : Str} {params : Arguments} {body : List Stmt} {scope : Scope} {dV kV doc pm cdv ct oc : Value} {an od : Option Addr}
    {osl : Array (Option Value)} {N ps : List Str} {sp : Sp} (lk : K.lookup f = some ⟨oc, od, .func (PySem.W.fnOf name qual params body scope dV kV doc pm an cdv ct), osl⟩) (hcd : PySem.W.codeIn K cdv qual = true) (S : FnScope N ps scope)
    (len : ∀ vs H Q E, sp vs H Q E → vs.length = ps.length)
    (hbody : ∀ (A : Around) (outer : List Env) (s : Shared) (H : Hp) (vs : List V) (Q : VK) (E : XK), Room k (A.deeper (envOfC qual scope s.heap.objs.size f cdv)) → sp vs H Q E →
      ∃ t, PSs (cxOf CX P w K mg base N qual scope f cdv A outer s H E) body t ∧ t { nx := fun _ H' => Q .non H', rt := Q } (start N vs) H) :
    FnOk P w K mg base CX (k + 1) f (PySem.W.fnOf name qual params body scope dV kV doc pm an cdv ct) ps sp := by
  refine ⟨len, fun A outer s H args us vs Q E hr e0 hb r hsp => ?_⟩
  have hl := len _ _ _ _ hsp
  have KX : K.In s.heap := e0.mod.kin.keeps fun b o e => (e0.bs b o e).1
  have lim : s.heap.NoLimit := e0.mod.nolimit.keeps fun b o e => (e0.bs b o e).1
  have hkind : ∀ y ∈ ps.zip us, scope.names.lookup y.1 = some .local ∨ (scope.names.lookup y.1 = some .cell ∧ ((cellsFrom (s.heap.objs.size + 1) scope.names []).lookup y.1).isSome = true) := fun ⟨n, v⟩ hy => by
    rcases S.par n (List.of_mem_zip hy).1 with q | q
    · exact .inl q
    · exact .inr ⟨q, PySem.W.cellsFrom_some _ _ _ (.inl q)⟩
  refine codeAny_call_function hr.depth (KX _ _ lk) rfl S.co S.gen rfl (PySem.W.codeRec_of KX hcd) (hb _ _ _ _ ?_)
  refine wpAny_newFunctionEnv_cells S.kind hkind fun env he s1 x => ?_
  subst he
  refine ⟨lim.keeps x.toInCall.keep, codeAny_func ?_⟩
  obtain ⟨t, ht, hq⟩ := hbody A outer s H vs Q E (hr.deeper _) hsp
  have I : Inv (cxOf CX P w K mg base N qual scope f cdv A outer s H E) [] (start N vs) H s1 := inv_start S hr.hd e0 hl r x
  refine wpAny_mono (ht [] s1 (start N vs) H _ I hq) (fun fl s' hs => ?_) fun e s' hs => hs
  have fin : ∀ {σ' : St} {H' : Hp} {v : V} {u : Value}, Inv (cxOf CX P w K mg base N qual scope f cdv A outer s H E) [] σ' H' s' → RelV v u → Q v H' → CE outer P w H s Q u s' :=
    fun {σ' H' v u} J rv q => ⟨v, H', J.os, J.bare, J.base, J.hok, rv, q⟩
  cases fl with
  | ret u =>
    obtain ⟨v, σ', H', J, rv, q⟩ := hs
    exact fin J rv q
  | next =>
    obtain ⟨σ', H', J, q⟩ := hs
    exact fin (v := V.non) (u := Value.none) J rfl q
  | brk =>
    obtain ⟨_, _, _, q⟩ := hs
    exact False.elim q
  | cont =>
    obtain ⟨_, _, _, q⟩ := hs
    exact False.elim q
end L2
namespace L2
open PySem PySem.Spec PyProof.Rows
section
variable {X : Cx} {x : Str} {p pos : Pos} {e : Expr} {es : List Expr} {t : TA} {id T : String} {r : List V → Hp → VK → Prop}
def tCB (r : List V → Hp → VK → Prop) (t : TA) : TE := fun σ H Q => t σ H fun vs H1 => r vs H1 Q
theorem pe_callB (hc : CallR X (.builtin id) r) (hg : Gl X x) (hm : X.mg x = none) (hv : bootBuiltins x = some (.builtin id)) (ha : PA X (e :: es) t) (hn : x ≠ "__name__" := by decide) (hdb : (x == ("__debug__" : Str)) = false := by decide)
    (he : starEach (e :: es) X.env = (false, eval e X.env) :: starEach es X.env := by rfl) (hpl : (backTo pos (starEach es X.env)).any (·.1) = false := by rfl) : PE X (.Call (.Name x p) (e :: es) [] pos) (tCB r t) := by
  intro pins s σ H Q I h
  refine wpAny_Call_Name_kw (ld_blt I hg hm hv ?_ hn hdb)
  exact PyProof.Rows.callWith_builtin1 (thn (ha pos pins s σ H _ I h) fun us s1 ⟨vs, H1, I1, r1, q1⟩ => hc pins s1 σ H1 vs us Q I1 r1 q1) he hpl
theorem pe_callTy (hc : CallR X (.type T) r) (hg : Gl X x) (hm : X.mg x = none) (hv : bootBuiltins x = some (.type T)) (ha : PA X (e :: es) t) (hn : x ≠ "__name__" := by decide) (hdb : (x == ("__debug__" : Str)) = false := by decide)
    (he : starEach (e :: es) X.env = (false, eval e X.env) :: starEach es X.env := by rfl) (hpl : (backTo pos (starEach es X.env)).any (·.1) = false := by rfl) : PE X (.Call (.Name x p) (e :: es) [] pos) (tCB r t) := by
  intro pins s σ H Q I h
  refine wpAny_Call_Name_kw (ld_blt I hg hm hv ?_ hn hdb)
  exact PyProof.Rows.callWith_type1 (thn (ha pos pins s σ H _ I h) fun us s1 ⟨vs, H1, I1, r1, q1⟩ => hc pins s1 σ H1 vs us Q I1 r1 q1) he hpl
end
end L2
namespace HT
open PySem PyProof.Rows
def lexLt : List Int → List Int → Bool
  | [], [] => false
  | [], _ :: _ => true
  | _ :: _, [] => false
  | x :: xs, y :: ys => if x = y then lexLt xs ys else decide (x < y)
section
open PySem.SeqAt
open PySem.AutoSeq1 (wpAny_loadPart')
open PySem.MeetsSeq PySem.MeetsSeq2 PySem.MeetsSeq3
end
section
variable {prog : Program} {w : World} {A : Around} {E : Value → Shared → Prop} {s : Shared}
def sIx (n d : Nat) : Option Int → Nat
  | none => d
  | some v => if v < 0 then (v + (n : Int)).toNat else min v.toNat n
end
end HT
namespace L2
open PySem PySem.Spec PyProof.Rows
abbrev TO := St → Hp → (Option Int → Hp → Prop) → Prop
def PO (X : Cx) (e : Option Expr) (t : TO) : Prop :=
  ∀ (pins : List (Addr × Obj)) (s : Shared) (σ : St) (H : Hp) (Q : Option Int → Hp → Prop), Inv X pins σ H s → t σ H Q →
    wpAny (model X.prog X.w) X.A (evalPart e X.env) (fun u s' => ∃ o H', Inv X pins σ H' s' ∧ IsPart u o ∧ Q o H') X.xe s
def tNoPart : TO := fun _ H Q => Q none H
def tPart (t : TE) : TO := fun σ H Q => t σ H fun x H1 => ∃ i, x = .int i ∧ Q (some i) H1
section
variable {X : Cx} {e : Expr} {te : TE} {lo hi : Option Expr} {tl th : TO} {pos p2 : Pos}
def SlR (X : Cx) (r : V → Option Int → Option Int → Hp → VK → Prop) : Prop :=
  ∀ (pins : List (Addr × Obj)) (s : Shared) (σ : St) (H : Hp) (x : V) (v vl vu : Value) (lo hi : Option Int) (sl : Addr) (Q : VK), Inv X pins σ H s → RelV x v → s.heap.IsSliceOf sl vl vu .none → IsPart vl lo → IsPart vu hi → r x lo hi H Q →
    ∃ T id, typeLookup (.type T) "__getitem__" = pure (some (.builtin id)) ∧ s.TypeIs v T ∧ wpAny (model X.prog X.w) X.A (getItem v (.ref sl)) (EP X pins σ Q) X.xe s
def tSl (r : V → Option Int → Option Int → Hp → VK → Prop) (te : TE) (tl th : TO) : TE := fun σ H Q => te σ H fun x H1 => tl σ H1 fun l H2 => th σ H2 fun u H3 => r x l u H3 Q
def cutV (xs : List V) (lo hi : Option Int) : List V := (xs.drop (HT.sIx xs.length 0 lo)).take (HT.sIx xs.length xs.length hi - HT.sIx xs.length 0 lo)
def rSlT (K : PySem.W.Frag) : V → Option Int → Option Int → Hp → VK → Prop := fun x lo hi H Q => ∃ a xs, x = .ref a ∧ SqT K H a xs ∧
  ¬ (HT.sIx xs.length 0 lo = 0 ∧ HT.sIx xs.length xs.length hi = xs.length) ∧ ∀ p, H p = none → Q (.ref p) (upd H p (.tup (cutV xs lo hi)))
def rLtT (K : PySem.W.Frag) : R2 := fun x y H Q => ∃ a b ns ms, x = .ref a ∧ y = .ref b ∧ SqT K H a (ns.map V.int) ∧ SqT K H b (ms.map V.int) ∧ Q (.bl (HT.lexLt ns ms)) H
def rCatT (K : PySem.W.Frag) : R2 := fun x y H Q => ∃ a b xs ys, x = .ref a ∧ y = .ref b ∧ SqT K H a xs ∧ SqT K H b ys ∧ xs ≠ [] ∧ xs.length + ys.length ≤ sizeLine ∧
  (ys = [] → Q (.ref a) H) ∧ (ys ≠ [] → ∀ p, H p = none → Q (.ref p) (upd H p (.tup (xs ++ ys))))
end
end L2
namespace L2
open PySem PySem.Spec PyProof.Rows
def ixN (n : Nat) (i : Int) : Option Nat := if 0 ≤ i then (if i < n then some i.toNat else none) else if -(n : Int) ≤ i then some (i + n).toNat else none
def atI {α : Type} (xs : List α) (i : Int) : Option α := (ixN xs.length i).bind fun j => xs[j]?
theorem ixN_seq {n : Nat} {i : Int} {j : Nat} (h : ixN n i = some j) : seqIndex? i n = some j ∧ j < n ∧ -(n : Int) ≤ i ∧ i < n := by
  unfold ixN at h
  by_cases h0 : 0 ≤ i
  · rw [if_pos h0] at h
    by_cases h1 : i < n
    · rw [if_pos h1] at h
      have e : i.toNat = j := Option.some.inj h
      exact ⟨by rw [seqIndex_of h0 h1, e], by omega, by omega, h1⟩
    · rw [if_neg h1] at h; cases h
  · rw [if_neg h0] at h
    by_cases h1 : -(n : Int) ≤ i
    · rw [if_pos h1] at h
      have e : (i + n).toNat = j := Option.some.inj h
      exact ⟨by rw [seqIndex_neg (by omega) h1, e], by omega, h1, by omega⟩
    · rw [if_neg h1] at h; cases h
theorem atI_get {α : Type} {xs : List α} {i : Int} {v : α} (h : atI xs i = some v) : ∃ j, seqIndex? i xs.length = some j ∧ xs[j]? = some v ∧ j < xs.length ∧ -(xs.length : Int) ≤ i ∧ i < xs.length := by
  unfold atI at h
  cases e : ixN xs.length i with
  | none => rw [e] at h; cases h
  | some j =>
    rw [e] at h
    obtain ⟨h1, h2, h3, h4⟩ := ixN_seq e
    exact ⟨j, h1, h, h2, h3, h4⟩
theorem atI_nat {α : Type} {xs : List α} {j : Nat} {v : α} (h : xs[j]? = some v) : atI xs (j : Int) = some v := by
  have hj : j < xs.length := (List.getElem?_eq_some_iff.mp h).1
  have e : ixN xs.length (j : Int) = some j := by
    unfold ixN
    rw [if_pos (by omega), if_pos (by omega)]; simp
  unfold atI; rw [e]; exact h
def PlainIx (b : Expr) : Prop := ∀ o i, subscripted b false o i = operate [o, i] (getItem o i)
def IxR (X : Cx) (r : R2) : Prop :=
  ∀ (value slice : Expr) (pins : List (Addr × Obj)) (s : Shared) (σ : St) (H : Hp) (x y : V) (v u : Value) (Q : VK), Inv X pins σ H s → RelV x v → RelV y u → r x y H Q →
    subscripted slice false v u = operate [v, u] (getItem v u) → wpAny (model X.prog X.w) X.A (subscriptTail value slice v u) (EP X pins σ Q) X.xe s
def MtR (X : Cx) (id : String) (r : V → List V → Hp → VK → Prop) : Prop :=
  ∀ (pins : List (Addr × Obj)) (s : Shared) (σ : St) (H : Hp) (x : V) (xs : List V) (v : Value) (us : List Value) (Q : VK), Inv X pins σ H s → RelV x v → Vals xs us → r x xs H Q →
    wpAny (model X.prog X.w) X.A (call (.builtin id) (v :: us)) (EP X pins σ Q) X.xe s
section
variable {X : Cx} {a b : Expr} {ta tb : TE} {pos : Pos}
theorem pe_ix {r : R2} (hr : IxR X r) (ha : PE X a ta) (hb : PE X b tb) (hs : PlainIx b) : PE X (.Subscript a b pos) (tOp r ta tb) := by
  intro pins s σ H Q I h
  exact Subscript_ (binT ha hb I h fun v u s2 x y H2 I2 rx ry q => hr a b pins s2 σ H2 x y v u Q I2 rx ry q (hs _ _))
def rIxL (K : PySem.W.Frag) : R2 := fun x y H Q => ∃ p xs i v, x = .ref p ∧ y = .int i ∧ SqL K H p xs ∧ atI xs i = some v ∧ Q v H
def rIxT (K : PySem.W.Frag) : R2 := fun x y H Q => ∃ p xs i v, x = .ref p ∧ y = .int i ∧ SqT K H p xs ∧ atI xs i = some v ∧ Q v H
def rIxS : R2 := fun x y H Q => ∃ z i c, x = .str z ∧ y = .int i ∧ z.length ≤ sizeLine ∧ atI z.cps.toList i = some c ∧ Q (.str ⟨#[c]⟩) H
theorem ix_list : IxR X (rIxL X.K) := by
  intro value slice pins s σ H x y v u Q I rx ry h hs
  obtain ⟨p, xs, i, z, rfl, rfl, hq, he, q⟩ := h
  cases rx
  obtain ⟨t, rfl⟩ := ry
  obtain ⟨its, r, pl, hz⟩ := I.list hq
  obtain ⟨j, h1, h2, h3, h4, h5⟩ := atI_get he
  obtain ⟨w, ew, rw'⟩ := r.get h2
  have hl := r.length
  have hn := line63
  have fin : EP X pins σ Q w s := ⟨z, H, I, rw', q⟩
  by_cases h0 : 0 ≤ i
  · have hj : i.toNat = j := by
      rw [seqIndex_of h0 h5] at h1
      exact Option.some.inj h1
    exact item_listR pl.isList h0 (by omega) (by rw [hj]; simpa using ew) fin hs
  · have hj : (i + (its.toArray.size : Int)).toNat = j := by
      rw [seqIndex_neg (by omega) h4] at h1
      rw [List.size_toArray, ← hl]
      exact Option.some.inj h1
    exact subscriptTail_builtinR (x := w) pl.isList.typeIs slot_list_getitem.lookup
      (wpAny_getItem_list_neg (Q := fun r s' => r = w ∧ EP X pins σ Q r s') pl.isList (by omega) (by rw [List.size_toArray] <;> omega) (by omega) (by rw [hj]; simpa using ew) ⟨rfl, fin⟩) hs
def rIx (K : PySem.W.Frag) : R2 := fun x y H Q => rIxL K x y H Q ∨ rIxT K x y H Q ∨ rIxS x y H Q
theorem mapSeq_set (its : List Value) (n j : Nat) (u : Value) : Obj.mapSeq (·.setIfInBounds j u) { cls := .type "list", data := .seq its.toArray n } = { cls := .type "list", data := .seq (its.set j u).toArray n } := by
  simp [Obj.mapSeq]
theorem Inv.lst {pins : List (Addr × Obj)} {σ : St} {H : Hp} {s : Shared} {p : Addr} {xs : List V} (I : Inv X pins σ H s) (h : H p = some (.lst xs)) :
    ∃ (its : List Value) (n : Nat), Vals xs its ∧ s.heap.get? p = some { cls := .type "list", data := .seq its.toArray n } ∧ xs.length ≤ sizeLine := by
  obtain ⟨z, its, n, r, e⟩ := I.hok p _ h
  exact ⟨its, n, r, e, z⟩
theorem Inv.lstUpd {pins : List (Addr × Obj)} {σ : St} {H : Hp} {s : Shared} {p : Addr} {xs ys : List V} {its its' : List Value} {n n' : Nat} {f : Obj → Obj} (I : Inv X pins σ H s) (h : H p = some (.lst xs))
    (ho : s.heap.get? p = some { cls := .type "list", data := .seq its.toArray n }) (hf : f { cls := .type "list", data := .seq its.toArray n } = { cls := .type "list", data := .seq its'.toArray n' }) (r : Vals ys its') (hz : ys.length ≤ sizeLine) (t : Nat) :
    Inv X pins σ (upd H p (.lst ys)) { s with heap := s.heap.update p f, toks := t } := by
  have e : (s.heap.update p f).get? p = some { cls := .type "list", data := .seq its'.toArray n' } := by
    rw [Heap.get?_update_self f ho (by rw [hf] <;> rfl), hf]
  refine I.write (x := p) (e := p) (by rw [h]; trivial) (.inl rfl) (fun b u hb q => (Heap.get?_update_other _ _ (Ne.symm hb)).trans q) ⟨_, e⟩ ?_
  exact ⟨hz, its', n', r, e⟩
def rSetL : V → V → V → Hp → (Hp → Prop) → Prop := fun o i v H Q => ∃ p xs k j, o = .ref p ∧ i = .int k ∧ H p = some (.lst xs) ∧ ixN xs.length k = some j ∧ Q (upd H p (.lst (xs.set j v)))
theorem set_list : PSet X rSetL := by
  intro pins s σ H o i v ov iv u Q I ro ri rv h
  obtain ⟨p, xs, k, j, rfl, rfl, hp, hj, q⟩ := h
  cases ro
  obtain ⟨t, rfl⟩ := ri
  obtain ⟨its, n, r, ho, hz⟩ := I.lst hp
  obtain ⟨h1, h2, h3, h4⟩ := ixN_seq hj
  have hl := r.length
  have hn := line63
  have I' : Inv X pins σ (upd H p (.lst (xs.set j v))) { s with heap := s.heap.update p (Obj.mapSeq (·.setIfInBounds j u)) } :=
    I.lstUpd hp ho (mapSeq_set its n j u) (r.set rv j) (by rw [List.length_set]; exact hz) s.toks
  by_cases h0 : 0 ≤ k
  · have hk : k.toNat = j := by
      rw [seqIndex_of h0 h4] at h1
      exact Option.some.inj h1
    exact PySem.W.ki_setAt ho h0 (by omega) (by rw [List.size_toArray, ← hl]; exact h4) (by rw [hk]; exact ⟨_, I', q⟩)
  · have hk : (k + (its.toArray.size : Int)).toNat = j := by
      rw [seqIndex_neg (by omega) h3] at h1
      rw [List.size_toArray, ← hl]
      exact Option.some.inj h1
    exact PySem.W.ki_setBack ho (by omega) (by rw [List.size_toArray, ← hl]; exact h3) (by omega) (by rw [hk]; exact ⟨_, I', q⟩)
def rSlL (K : PySem.W.Frag) : V → Option Int → Option Int → Hp → VK → Prop := fun x lo hi H Q => ∃ a xs, x = .ref a ∧ SqL K H a xs ∧ ∀ p, H p = none → Q (.ref p) (upd H p (.lst (cutV xs lo hi)))
def flatV : V → Bool
  | .non => true
  | .bl _ => true
  | .int _ => true
  | .str _ => true
  | _ => false
def eqV : V → V → Bool
  | .non, .non => true
  | .bl a, .bl b => a == b
  | .bl a, .int b => (if a then 1 else 0) == b
  | .int a, .bl b => a == (if b then 1 else 0)
  | .int a, .int b => a == b
  | .str a, .str b => a == b
  | _, _ => false
theorem eqAt_V {A : Around} {s : Shared} {y x : V} {u v : Value} (ry : RelV y u) (rx : RelV x v) (fy : flatV y = true) (fx : flatV x = true) : SeqAt.EqAt A s u v (eqV y x) := by
  cases y with
  | non =>
    cases ry
    cases x with
    | non => cases rx; exact SeqAt.EqAt.same _
    | bl b => cases rx; exact SeqAt.EqAt.none_bool b
    | int b => obtain ⟨t, rfl⟩ := rx; exact SeqAt.EqAt.none_int b t
    | str b => obtain ⟨t, rfl⟩ := rx; exact SeqAt.EqAt.none_str b t
    | _ => exact absurd (show false = true from fx) Bool.false_ne_true
  | bl a =>
    cases ry
    cases x with
    | non => cases rx; exact SeqAt.EqAt.bool_none a
    | bl b => cases rx; exact SeqAt.EqAt.bool_bool a b
    | int b => obtain ⟨t, rfl⟩ := rx; exact SeqAt.EqAt.bool_int a b t
    | str b => obtain ⟨t, rfl⟩ := rx; exact SeqAt.EqAt.bool_str a b t
    | _ => exact absurd (show false = true from fx) Bool.false_ne_true
  | int a =>
    obtain ⟨t', rfl⟩ := ry
    cases x with
    | non => cases rx; exact SeqAt.EqAt.int_none a t'
    | bl b => cases rx; exact SeqAt.EqAt.int_bool a t' b
    | int b => obtain ⟨t, rfl⟩ := rx; exact SeqAt.EqAt.int_int a t' b t
    | str b => obtain ⟨t, rfl⟩ := rx; exact SeqAt.EqAt.int_str a t' b t
    | _ => exact absurd (show false = true from fx) Bool.false_ne_true
  | str a =>
    obtain ⟨t', rfl⟩ := ry
    cases x with
    | non => cases rx; exact SeqAt.EqAt.str_none a t'
    | bl b => cases rx; exact SeqAt.EqAt.str_bool a t' b
    | int b => obtain ⟨t, rfl⟩ := rx; exact SeqAt.EqAt.str_int a t' b t
    | str b => obtain ⟨t, rfl⟩ := rx; exact SeqAt.EqAt.str_str a t' b t
    | _ => exact absurd (show false = true from fx) Bool.false_ne_true
  | _ => exact absurd (show false = true from fy) Bool.false_ne_true
def eqU (x : V) (u : Value) : Bool := match u with
  | .none => eqV .non x
  | .bool b => eqV (.bl b) x
  | .int i _ => eqV (.int i) x
  | .str z _ => eqV (.str z) x
  | _ => false
theorem eqU_of {x y : V} {u : Value} (r : RelV y u) (f : flatV y = true) : eqU x u = eqV y x := by
  cases y with
  | non => cases r; rfl
  | bl b => cases r; rfl
  | int i => obtain ⟨t, rfl⟩ := r; rfl
  | str z => obtain ⟨t, rfl⟩ := r; rfl
  | _ => exact absurd (show false = true from f) Bool.false_ne_true
theorem any_eqU {x : V} : ∀ {xs : List V} {us : List Value}, Vals xs us → xs.all flatV = true → us.any (eqU x) = xs.any fun y => eqV y x
  | _, _, .nil, _ => rfl
  | y :: xs, u :: us, .cons r t, f => by
    rw [List.all_cons, Bool.and_eq_true] at f
    rw [List.any_cons, List.any_cons, eqU_of r f.1, any_eqU t f.2]
theorem mem_eqAt {A : Around} {s : Shared} {x : V} {v : Value} (rx : RelV x v) (fx : flatV x = true) : ∀ {xs : List V} {us : List Value}, Vals xs us → xs.all flatV = true → ∀ u ∈ us, SeqAt.EqAt A s u v (eqU x u)
  | _, _, .nil, _ => fun u hu => by cases hu
  | y :: xs, u :: us, .cons r t, f => fun u' hu => by
    rw [List.all_cons, Bool.and_eq_true] at f
    rcases List.mem_cons.mp hu with rfl | hu
    · rw [eqU_of r f.1]; exact eqAt_V r rx f.1 fx
    · exact mem_eqAt rx fx t f.2 u' hu
def inV (x : V) (xs : List V) : Bool := xs.any fun y => eqV y x
def rIn (K : PySem.W.Frag) (neg : Bool) : R2 := fun x y H Q => ∃ p xs, y = .ref p ∧ (SqL K H p xs ∨ SqT K H p xs) ∧ flatV x = true ∧ xs.all flatV = true ∧ Q (.bl (if neg then !inV x xs else inV x xs)) H
theorem op_in_seq : OpR X (compareOp .In) (rIn X.K false) := by
  intro pins s σ H x y v u Q I rx ry h
  obtain ⟨p, xs, rfl, hq, fx, fs, q⟩ := h
  cases ry
  rcases hq with hq | hq
  · obtain ⟨its, r, pl, hz⟩ := I.list hq
    refine SeqAt.in_listAt (eqU x) pl.isList (fun w hw => mem_eqAt rx fx r fs w (by simpa using hw)) ⟨.bl _, H, I, rfl, ?_⟩
    rw [show its.toArray.any (eqU x) = its.any (eqU x) by simp, any_eqU r fs]
    exact q
  · obtain ⟨its, r, pl, hz⟩ := I.tuple hq
    refine SeqAt.in_tupleAt (eqU x) pl (fun w hw => mem_eqAt rx fx r fs w (by simpa using hw)) ⟨.bl _, H, I, rfl, ?_⟩
    rw [show its.toArray.any (eqU x) = its.any (eqU x) by simp, any_eqU r fs]
    exact q
theorem op_notIn_seq : OpR X (compareOp .NotIn) (rIn X.K true) := by
  intro pins s σ H x y v u Q I rx ry h
  obtain ⟨p, xs, rfl, hq, fx, fs, q⟩ := h
  cases ry
  rcases hq with hq | hq
  · obtain ⟨its, r, pl, hz⟩ := I.list hq
    refine SeqAt.notIn_listAt (eqU x) pl.isList (fun w hw => mem_eqAt rx fx r fs w (by simpa using hw)) ⟨.bl _, H, I, rfl, ?_⟩
    rw [show its.toArray.any (eqU x) = its.any (eqU x) by simp, any_eqU r fs]
    exact q
  · obtain ⟨its, r, pl, hz⟩ := I.tuple hq
    refine SeqAt.notIn_tupleAt (eqU x) pl (fun w hw => mem_eqAt rx fx r fs w (by simpa using hw)) ⟨.bl _, H, I, rfl, ?_⟩
    rw [show its.toArray.any (eqU x) = its.any (eqU x) by simp, any_eqU r fs]
    exact q
theorem call_len_seq : CallR X (.builtin "len") (fun xs H Q => ∃ p ys, xs = [.ref p] ∧ (SqL X.K H p ys ∨ SqT X.K H p ys) ∧ Q (.int ys.length) H) := by
  intro pins s σ H xs us Q I r h
  obtain ⟨p, ys, rfl, hq, q⟩ := h
  obtain ⟨u, rfl, rx⟩ := vals1 r
  cases rx
  have hn := line63
  rcases hq with hq | hq
  · obtain ⟨its, r', pl, hz⟩ := I.list hq
    have hlen := r'.length
    exact Calls.call_len_list pl.isList (by simp only [List.size_toArray] <;> omega) ⟨.int ys.length, H, I.tok _, ⟨s.toks + 1, by rw [List.size_toArray, hlen]⟩, q⟩
  · obtain ⟨its, r', pl, hz⟩ := I.tuple hq
    have hlen := r'.length
    exact len_tuple pl (by simp only [List.size_toArray] <;> omega) ⟨.int ys.length, H, I.tok _, ⟨s.toks + 1, by rw [List.size_toArray, hlen]⟩, q⟩
theorem call_list_of : CallR X (.type "list") (fun xs H Q => ∃ p ys, xs = [.ref p] ∧ (SqL X.K H p ys ∨ SqT X.K H p ys) ∧ ∀ l, H l = none → Q (.ref l) (upd H l (.lst ys))) := by
  intro pins s σ H xs us Q I r h
  obtain ⟨p, ys, rfl, hq, q⟩ := h
  obtain ⟨u, rfl, rx⟩ := vals1 r
  cases rx
  have fin : ∀ (its : List Value), Vals ys its → ys.length ≤ sizeLine → ∀ (h' : Heap) (c' : Nat), (∀ b o', s.heap.get? b = some o' → h'.get? b = some o') →
      h'.get? s.heap.objs.size = some { cls := .type "list", dict := none, data := .seq its.toArray c', slots := #[] } → EP X pins σ Q (.ref s.heap.objs.size) { s with heap := h' } := fun its r' hz h' c' kp e =>
    ⟨.ref s.heap.objs.size, _, I.laid (t' := s.toks) kp (Nat.le_refl _) (show ObjOk X.prog X.w _ h' _ (.lst ys) from ⟨hz, its, c', r', e⟩), rfl, q _ (I.hok.fresh (Nat.le_refl _))⟩
  rcases hq with hq | hq
  · obtain ⟨its, r', pl, hz⟩ := I.list hq
    have hlen := r'.length
    obtain ⟨o, ho, hc, n, hd⟩ := pl.isList
    exact call_list_seq p (.inl rfl) ho hc hd (fun h' c' kp e => fin its r' hz h' c' kp e) (by simp only [List.size_toArray] <;> omega)
  · obtain ⟨its, r', pl, hz⟩ := I.tuple hq
    have hlen := r'.length
    obtain ⟨o, ho, hc, n, hd⟩ := pl
    exact call_list_seq p (.inr rfl) ho hc hd (fun h' c' kp e => fin its r' hz h' c' kp e) (by simp only [List.size_toArray] <;> omega)
def tyV (K : PySem.W.Frag) (T : String) (x : V) (H : Hp) : Prop := match x with
  | .str _ => T = "str"
  | .int _ => T = "int"
  | .ref p => (T = "list" ∧ ∃ xs, SqL K H p xs) ∨ (T = "tuple" ∧ ∃ o, K.lookup p = some o ∧ o.cls = .type "tuple" ∧ o.dict = none) ∨
      (T = "dict" ∧ ((∃ kvs, H p = some (.dK kvs)) ∨ ∃ kvs, H p = some (.dT kvs))) ∨ (T = "set" ∧ ∃ S n, H p = some (.set S n))
  | _ => False
theorem tyV_is {pins : List (Addr × Obj)} {σ : St} {H : Hp} {s : Shared} {T : String} {x : V} {v : Value} (I : Inv X pins σ H s) (r : RelV x v) (ty : tyV X.K T x H) :
    s.TypeIs v T ∧ ∀ a, v = .ref a → ∃ ob, s.heap.get? a = some ob ∧ ob.dict = none := by
  cases x with
  | str z =>
    obtain ⟨t, rfl⟩ := r
    cases (show T = "str" from ty)
    exact ⟨typeIs_str s z t, fun _ e => nomatch e⟩
  | int i =>
    obtain ⟨t, rfl⟩ := r
    cases (show T = "int" from ty)
    exact ⟨typeIs_int s i t, fun _ e => nomatch e⟩
  | ref p =>
    cases r
    rcases ty with ⟨rfl, xs, hq⟩ | ⟨rfl, o, hk, hc, hd⟩ | ⟨rfl, hk⟩ | ⟨rfl, S, n, hk⟩
    · obtain ⟨its, _, pl, _⟩ := I.list hq
      refine ⟨pl.isList.typeIs, fun a e => ?_⟩
      cases e
      obtain ⟨o, n, e, c, hd, _⟩ := pl
      exact ⟨o, e, hd⟩
    · refine ⟨⟨o, I.kIn p o hk, hc⟩, fun a e => ?_⟩
      cases e
      exact ⟨o, I.kIn _ o hk, hd⟩
    · have z : ∃ o, s.heap.get? p = some o ∧ o.ExactDict := by
        rcases hk with ⟨kvs, hk⟩ | ⟨kvs, hk⟩
        · obtain ⟨_, _, _, _, o, _, _, e, ex, _⟩ := I.hok p _ hk
          exact ⟨o, e, ex⟩
        · obtain ⟨_, _, _, _, o, _, _, e, ex, _⟩ := I.hok p _ hk
          exact ⟨o, e, ex⟩
      obtain ⟨o, e, ex⟩ := z
      refine ⟨⟨o, e, ex.1⟩, fun a e2 => ?_⟩
      cases e2
      exact ⟨o, e, ex.2.1⟩
    · obtain ⟨o, _, _, _, e, ex, _⟩ := I.hok p _ hk
      refine ⟨⟨o, e, ex.1⟩, fun a e2 => ?_⟩
      cases e2
      exact ⟨o, e, ex.2.1⟩
  | _ => exact False.elim ty
def tBM0 (K : PySem.W.Frag) (T : String) (r : V → List V → Hp → VK → Prop) (to : TE) : TE := fun σ H Q => to σ H fun x H1 => tyV K T x H1 ∧ r x [] H1 Q
def tBM (K : PySem.W.Frag) (T : String) (r : V → List V → Hp → VK → Prop) (to : TE) (t : TA) : TE := fun σ H Q => to σ H fun x H1 => tyV K T x H1 ∧ t σ H1 fun xs H2 => r x xs H2 Q
variable {o e : Expr} {es : List Expr} {to : TE} {t : TA} {name : Str} {apos cpos : Pos} {T id : String} {r : V → List V → Hp → VK → Prop}
theorem pe_bm0 (pa : PlainAttrs T) (slot : Slot T name id) (hty : typeOf (.builtin id) = pure (.type "method_descriptor")) (hm : MtR X id r) (ho : PE X o to)
    (hbase : attributeBase o name X.env (eval o X.env) = eval o X.env := by rfl) (hline : (apos.endLine == cpos.line) = true := by rfl) : PE X (.Call (.Attribute o name apos) [] [] cpos) (tBM0 X.K T r to) := by
  intro pins s σ H Q I h
  refine wpAny_Call_method0_late hbase hline (thn (ho pins s σ H _ I h) fun v s1 ⟨x, H1, I1, r1, ty, q1⟩ => ?_)
  obtain ⟨h1, h2⟩ := tyV_is I1 r1 ty
  exact ⟨T, id, pa, slot, hty, h1, h2, Calls.callWith_builtin rfl (PySem.evalArgs_none (hm pins s1 σ H1 x [] v [] Q I1 r1 .nil q1))⟩
theorem pe_bm (pa : PlainAttrs T) (slot : Slot T name id) (hty : typeOf (.builtin id) = pure (.type "method_descriptor")) (hm : MtR X id r) (ho : PE X o to) (ha : PA X (e :: es) t)
    (hbase : attributeBase o name X.env (eval o X.env) = eval o X.env := by rfl)
    (hfew : ((backTo cpos (starEach (e :: es) X.env)).all (fun x => !x.1) && (backToKw cpos (keywordEach [] X.env)).all (fun x => x.1.isSome)
      && decide ((e :: es).length + ([] : List Keyword).length + (if ([] : List Keyword).isEmpty then 0 else 1) < 30)) = true := by rfl)
    (hline : (apos.endLine == cpos.line) = true := by rfl) (hs : starEach (e :: es) X.env = (false, eval e X.env) :: starEach es X.env := by rfl) (hplain : (backTo cpos (starEach es X.env)).any (·.1) = false := by rfl) :
    PE X (.Call (.Attribute o name apos) (e :: es) [] cpos) (tBM X.K T r to t) := by
  intro pins s σ H Q I h
  refine wpAny_Call_method_late hbase hfew hline rfl (thn (ho pins s σ H _ I h) fun v s1 ⟨x, H1, I1, r1, ty, q1⟩ => ?_)
  obtain ⟨h1, h2⟩ := tyV_is I1 r1 ty
  refine ⟨T, id, pa, slot, hty, h1, h2, ?_⟩
  have hA := ha cpos pins s1 σ H1 _ I1 q1
  rw [hs] at hA ⊢
  refine Calls.callWith_builtin (by show (false || (backTo cpos (starEach es X.env)).any (·.1)) = false; rw [hplain] <;> rfl) (Calls.evalArgs_plain ?_)
  exact thn hA fun us s2 ⟨vs, H2, I2, r2, q2⟩ => hm pins s2 σ H2 x vs v us Q I2 r1 r2 q2
end
end L2
namespace L2
open PySem PySem.Spec PyProof.Rows
def MtM (X : Cx) (id : String) (r : V → List V → Hp → VK → Prop) : Prop :=
  ∀ (pins : List (Addr × Obj)) (s : Shared) (σ : St) (H : Hp) (x : V) (xs : List V) (v : Value) (us : List Value) (Q : VK), Inv X pins σ H s → RelV x v → Vals xs us → r x xs H Q →
    wpAny (model X.prog X.w) X.A (call (.builtin id) (v :: us)) (EP X pins σ Q) X.xe s
theorem Vals.one : ∀ {x : V} {us : List Value}, Vals [x] us → ∃ u, us = [u] ∧ RelV x u
  | _, _, .cons r .nil => ⟨_, rfl, r⟩
theorem Vals.zero : ∀ {us : List Value}, Vals [] us → us = []
  | _, .nil => rfl
theorem Vals.dropLast {xs : List V} {us : List Value} (h : Vals xs us) : Vals xs.dropLast us.dropLast := by
  induction h with
  | nil => exact .nil
  | cons r t ih =>
    cases t with
    | nil => exact .nil
    | cons q t' => exact .cons r ih
theorem Vals.rep {xs : List V} {us : List Value} (h : Vals xs us) : ∀ k : Nat, Vals (List.replicate k xs).flatten (List.replicate k us).flatten
  | 0 => .nil
  | k + 1 => by
    rw [List.replicate_succ, List.replicate_succ, List.flatten_cons, List.flatten_cons]
    exact Vals.append h (Vals.rep h k)
theorem erase_last {α : Type} (l : List α) : l.eraseIdx (l.length - 1) = l.dropLast := by
  induction l with
  | nil => rfl
  | cons a r ih =>
    cases r with
    | nil => rfl
    | cons b r =>
      have e : (a :: b :: r).length - 1 = ((b :: r).length - 1) + 1 := by
        have h1 : (a :: b :: r).length = r.length + 2 := rfl
        have h2 : (b :: r).length = r.length + 1 := rfl
        omega
      rw [e, List.eraseIdx_cons_succ, ih]
      all_goals rfl
theorem foldl_rep (its : List Value) : ∀ (k : Nat) (acc : List Value),
    List.foldl (fun x1 x2 => x1 ++ x2) acc.toArray (List.replicate k its.toArray) = (acc ++ (List.replicate k its).flatten).toArray
  | 0, acc => by simp
  | k + 1, acc => by
    have e : acc.toArray ++ its.toArray = (acc ++ its).toArray := by simp
    have e2 : (acc ++ its) ++ (List.replicate k its).flatten = acc ++ (List.replicate (k + 1) its).flatten := by
      rw [List.replicate_succ, List.flatten_cons, List.append_assoc]
    rw [← e2, ← foldl_rep its k (acc ++ its), ← e, List.replicate_succ, List.foldl_cons]
section
variable {X : Cx} {pins : List (Addr × Obj)} {σ : St} {H : Hp} {s : Shared} {l b : Addr} {xs ys zs : List V}
theorem Inv.lset {its its' : List Value} {n : Nat} {f : Array Value → Array Value} {t' : Nat} (I : Inv X pins σ H s) (hH : H l = some (.lst xs))
    (e : s.heap.get? l = some { cls := .type "list", data := .seq its.toArray n }) (hf : f its.toArray = its'.toArray) (hv : Vals ys its') (hz : ys.length ≤ sizeLine) :
    Inv X pins σ (upd H l (.lst ys)) { s with heap := s.heap.update l (Obj.mapSeq f), toks := t' } := by
  have q := PySem.IsL.update e f
  rw [hf] at q
  refine I.write (x := l) (e := l) (by rw [hH]; exact trivial) (.inl rfl) (fun b' u hb hu => (Heap.get?_update_other s.heap (Obj.mapSeq f) (Ne.symm hb)).trans hu) ⟨_, q⟩ ?_
  exact ⟨hz, its', _, hv, q⟩
theorem Inv.lnew {its : List Value} {t' : Nat} (I : Inv X pins σ H s) (hv : Vals ys its) (hz : ys.length ≤ sizeLine) :
    Inv X pins σ (upd H s.heap.objs.size (.lst ys)) { s with heap := s.heap.push { cls := .type "list", data := .seq its.toArray }, toks := t' } :=
  I.laid (fun _ _ q => Heap.get?_push_of_some _ q) (Nat.le_refl _) ⟨hz, its, 0, hv, Heap.get?_push_size _ rfl⟩
theorem Inv.fresh (I : Inv X pins σ H s) : H s.heap.objs.size = none := I.hok.fresh (Nat.le_refl _)
theorem Inv.lstM (I : Inv X pins σ H s) (hH : H l = some (.lst xs)) : xs.length ≤ sizeLine ∧ ∃ (its : List Value) (n : Nat), Vals xs its ∧ xs.length = its.length ∧ s.heap.get? l = some { cls := .type "list", data := .seq its.toArray n } := by
  obtain ⟨z, its, n, r, e⟩ := I.hok l _ hH
  exact ⟨z, its, n, r, r.length, e⟩
theorem notLongL {n : Nat} (h : n ≤ sizeLine) : Builtin.List.listTooLong n = false := by
  unfold Builtin.List.listTooLong
  exact decide_eq_false (by omega)
end
section
variable {X : Cx}
def rAppend : V → List V → Hp → VK → Prop := fun x vs H Q => ∃ l xs y, x = .ref l ∧ vs = [y] ∧ H l = some (.lst xs) ∧ xs.length < sizeLine ∧ Q .non (upd H l (.lst (xs ++ [y])))
theorem mt_append : MtM X "list.append" rAppend := by
  intro pins s σ H x vs v us Q I rx rv h
  obtain ⟨l, xs, y, rfl, rfl, hH, hz, q⟩ := h
  cases rx
  obtain ⟨u, rfl, ru⟩ := rv.one
  obtain ⟨z, its, n, r, hl, e⟩ := I.lstM hH
  refine call_meets F.slot_list_append ⟨_, e, rfl⟩ F.entry_list_append (F.args_list_append_2 _ _) (PySem.list_append l its.toArray n u (by rw [List.size_toArray]; omega)) ⟨e, ?_⟩
  refine ⟨.non, _, I.lset (its' := its ++ [u]) hH e (by simp) (r.append (.cons ru .nil)) ?_, rfl, q⟩
  rw [List.length_append, List.length_singleton]
  omega
def rExtend : V → List V → Hp → VK → Prop := fun x vs H Q => ∃ l b xs zs, x = .ref l ∧ vs = [.ref b] ∧ H l = some (.lst xs) ∧ H b = some (.lst zs) ∧ xs.length + zs.length ≤ sizeLine ∧ Q .non (upd H l (.lst (xs ++ zs)))
def rPop : V → List V → Hp → VK → Prop := fun x vs H Q => ∃ l xs y, x = .ref l ∧ vs = [] ∧ H l = some (.lst xs) ∧ xs[xs.length - 1]? = some y ∧ Q y (upd H l (.lst xs.dropLast))
theorem mt_pop : MtM X "list.pop" rPop := by
  intro pins s σ H x vs v us Q I rx rv h
  obtain ⟨l, xs, y, rfl, rfl, hH, hy, q⟩ := h
  cases rx
  have hus := rv.zero
  subst hus
  obtain ⟨z, its, n, r, hl, e⟩ := I.lstM hH
  obtain ⟨u, hu, ru⟩ := r.get hy
  have hy' : its.toArray[its.toArray.size - 1]? = some u := by
    show its.toArray[its.length - 1]? = some u
    rw [← Array.getElem?_toList, ← hl]
    exact hu
  refine call_meets F.slot_list_pop ⟨_, e, rfl⟩ F.entry_list_pop (F.args_list_pop_1 _) (MeetsSeq.list_pop_last l its.toArray n u hy' (by rw [List.size_toArray]; omega)) ⟨e, ?_⟩
  refine ⟨y, _, I.lset (its' := its.dropLast) hH e ?_ r.dropLast ?_, ru, q⟩
  · show its.toArray.eraseIdxIfInBounds (its.toArray.size - 1) = its.dropLast.toArray
    rw [List.size_toArray, List.eraseIdxIfInBounds_toArray, erase_last]
  · rw [List.length_dropLast]
    omega
def rPopAt : V → List V → Hp → VK → Prop := fun x vs H Q => ∃ l xs i k y, x = .ref l ∧ vs = [.int i] ∧ H l = some (.lst xs) ∧ -(2 ^ 63) ≤ i ∧ i < 2 ^ 63 ∧ seqIndex? i xs.length = some k ∧ xs[k]? = some y ∧ Q y (upd H l (.lst (xs.eraseIdx k)))
def rReverse : V → List V → Hp → VK → Prop := fun x vs H Q => ∃ l xs, x = .ref l ∧ vs = [] ∧ H l = some (.lst xs) ∧ Q .non (upd H l (.lst xs.reverse))
def rClear : V → List V → Hp → VK → Prop := fun x vs H Q => ∃ l xs, x = .ref l ∧ vs = [] ∧ H l = some (.lst xs) ∧ Q .non (upd H l (.lst []))
def rCat : R2 := fun x y H Q => ∃ l b xs zs, x = .ref l ∧ y = .ref b ∧ H l = some (.lst xs) ∧ H b = some (.lst zs) ∧ xs.length + zs.length ≤ sizeLine ∧ ∀ p, H p = none → Q (.ref p) (upd H p (.lst (xs ++ zs)))
theorem op_cat : OpR X (binaryOp .Add) rCat := by
  intro pins s σ H x y v u Q I rx ry h
  obtain ⟨l, b, xs, zs, rfl, rfl, hH, hB, hz, q⟩ := h
  cases rx
  cases ry
  obtain ⟨z, its, n, r, hl, e⟩ := I.lstM hH
  obtain ⟨z2, its2, n2, r2, hl2, e2⟩ := I.lstM hB
  refine PySem.P.add_list e e2 ?_ (by rw [List.size_toArray, List.size_toArray]; omega)
  have ea : its.toArray ++ its2.toArray = (its ++ its2).toArray := by simp
  rw [ea]
  exact ⟨.ref _, _, I.lnew (t' := s.toks) (r.append r2) (by rw [List.length_append]; omega), rfl, q _ I.fresh⟩
def rRep : R2 := fun x y H Q => ∃ l k xs, x = .ref l ∧ y = .int k ∧ H l = some (.lst xs) ∧ -(2 ^ 63) ≤ k ∧ k < 2 ^ 63 ∧ xs.length * k.toNat ≤ sizeLine ∧
  ∀ p, H p = none → Q (.ref p) (upd H p (.lst (List.replicate k.toNat xs).flatten))
theorem len_rep {α : Type} (xs : List α) (k : Nat) : (List.replicate k xs).flatten.length = k * xs.length := by
  induction k with
  | zero => simp
  | succ k ih => rw [List.replicate_succ, List.flatten_cons, List.length_append, ih, Nat.succ_mul, Nat.add_comm]
theorem op_rep : OpR X (binaryOp .Mult) rRep := by
  intro pins s σ H x y v u Q I rx ry h
  obtain ⟨l, k, xs, rfl, rfl, hH, h1, h2, hz, q⟩ := h
  cases rx
  obtain ⟨t, rfl⟩ := ry
  obtain ⟨z, its, n, r, hl, e⟩ := I.lstM hH
  have hlen : its.toArray.size * k.toNat ≤ sizeLine := by rw [List.size_toArray, ← hl]; exact hz
  have hcap : ¬ its.toArray.size * k.toNat > (2 ^ 63 - 1) / 8 := by
    have : (sizeLine : Nat) ≤ (2 ^ 63 - 1) / 8 := by decide
    omega
  have hfit : ¬ (!Builtin.List.listFitsIndex k) = true := by
    rw [fitsIndex_both h1 h2]
    exact Bool.false_ne_true
  have hlong : ¬ Builtin.List.listTooLong (its.toArray.size * k.toNat) = true := by
    rw [notLongL hlen]
    exact Bool.false_ne_true
  have hnew : List.foldl (fun x1 x2 => x1 ++ x2) #[] (List.replicate (if its.toArray.isEmpty = true then 0 else k.toNat) its.toArray) = (List.replicate k.toNat its).flatten.toArray := by
    have f0 : ∀ m : Nat, List.foldl (fun x1 x2 => x1 ++ x2) #[] (List.replicate m its.toArray) = (List.replicate m its).flatten.toArray := fun m => by
      have := foldl_rep its m []
      rw [List.nil_append] at this
      exact this
    rw [f0]
    cases its with
    | nil => simp
    | cons a r' => rw [if_neg (by simp)]
  refine wpAny_binaryOp_repeat_ref (T := "list") (U := "int") (by decide) ⟨_, e, rfl⟩ (fun s' => typeIs_int s' k t) noFill_list_mul F.fills_int_mul F.slot_int_rmul repeat_list F.slot_int_index.lookup
    (call_meets F.slot_int_rmul (typeIs_int s k t) F.entry_int_rmul (F.args_int_rmul_2 _ _) (int___rmul___int_list k t l its.toArray n)
      ⟨e, rfl, ⟨_, e, rfl⟩, call_meets F.slot_list_mul ⟨_, e, rfl⟩ F.entry_list_mul (F.args_list_mul_2 _ _) (AutoListH.list___mul___list_int_3 l its.toArray n k t hfit hcap hlong) ⟨e, ?_⟩⟩)
  rw [hnew]
  exact ⟨.ref _, _, I.lnew (t' := s.toks) (r.rep k.toNat) (by rw [len_rep, Nat.mul_comm]; exact hz), rfl, q _ I.fresh⟩
end
section
variable {prog : Program} {w : World} {A : Around} {E : Value → Shared → Prop} {s : Shared}
set_option maxRecDepth 100000 in
end
section
variable {X : Cx}
end
end L2
namespace L2
open PySem PySem.Spec PyProof.Rows
section
variable {κ : Type} [DecidableEq κ]
def valV (kvs : List (κ × V)) (k : κ) : Option V := (kvs.find? fun kv => decide (kv.1 = k)).map (·.2)
def putK (kvs : List (κ × V)) (k : κ) (v : V) : List (κ × V) :=
  if (kvs.any fun kv => decide (kv.1 = k)) = true then kvs.map (fun kv => if kv.1 = k then (kv.1, v) else kv) else kvs ++ [(k, v)]
def dropK (kvs : List (κ × V)) (k : κ) : List (κ × V) := kvs.filter fun kv => decide (kv.1 ≠ k)
end
abbrev KT (H : Hp) : List (List Key × V) → List (List Key × Addr × Value) → Prop := Paired fun p q => p.1 = q.1 ∧ H q.2.1 = some (.tup (p.1.map kV)) ∧ RelV p.2 q.2.2
section
variable {P : Program} {w : World} {H : Hp} {h : Heap} {a : Addr}
end
def DGet (H : Hp) (a : Addr) (y : V) (r : Option V) : Prop :=
  (∃ kvs k, Rd H a (.dK kvs) ∧ y = kV k ∧ r = valV kvs k) ∨ ∃ kvs k b, Rd H a (.dT kvs) ∧ y = .ref b ∧ H b = some (.tup (k.map kV)) ∧ r = valV kvs k
def DPut (H : Hp) (a : Addr) (y v : V) (H' : Hp) : Prop :=
  (∃ kvs k, H a = some (.dK kvs) ∧ y = kV k ∧ kvs.length < sizeLine ∧ H' = upd H a (.dK (putK kvs k v))) ∨
  ∃ kvs k b, H a = some (.dT kvs) ∧ y = .ref b ∧ H b = some (.tup (k.map kV)) ∧ kvs.length < sizeLine ∧ H' = upd H a (.dT (putK kvs k v))
section
variable {X : Cx} {pins : List (Addr × Obj)} {σ : St} {H : Hp} {s : Shared} {a : Addr} {y v : V} {u r : Value} {o : Option V} {A : Around} {E : Value → Shared → Prop}
theorem Inv.big (I : Inv X pins σ H s) : sysModules < s.heap.objs.size := by
  have h : mainGlobals < s.heap.objs.size := (I.mod.glob.keeps I.bk).lt
  exact Nat.lt_trans (by decide) h
end
section
variable {X : Cx} {pins : List (Addr × Obj)} {σ : St} {H : Hp} {s : Shared} {a : Addr} {kvs : List (Key × V)} {k : Key} {u : Value} {A : Around} {E : Value → Shared → Prop}
end
def NoSl (i : Expr) : Prop := ∀ ov iv, subscripted i false ov iv = operate [ov, iv] (getItem ov iv)
def tDGet (td ty : TE) : TE := fun σ H Q => td σ H fun x H1 => ty σ H1 fun y H2 => ∃ a v, x = .ref a ∧ DGet H2 a y (some v) ∧ Q v H2
def tDIn (ty td : TE) : TE := fun σ H Q => ty σ H fun y H1 => td σ H1 fun x H2 => ∃ a o, x = .ref a ∧ DGet H2 a y o ∧ Q (.bl o.isSome) H2
def tDNotIn (ty td : TE) : TE := fun σ H Q => ty σ H fun y H1 => td σ H1 fun x H2 => ∃ a o, x = .ref a ∧ DGet H2 a y o ∧ Q (.bl (!o.isSome)) H2
def sDPut (td ty tv : TE) : TS := fun D σ H => tv σ H fun v H1 => td σ H1 fun x H2 => ty σ H2 fun y H3 => ∃ a H4, x = .ref a ∧ DPut H3 a y v H4 ∧ D.nx σ H4
def sDAug (td ty tv : TE) (rd : V → V → Hp → VK → Prop) : TS := fun D σ H => td σ H fun x H1 => ty σ H1 fun y H2 => ∃ a v, x = .ref a ∧ DGet H2 a y (some v) ∧
  tv σ H2 fun y2 H3 => rd v y2 H3 fun z H4 => ∃ H5, DPut H4 a y z H5 ∧ D.nx σ H5
def sDDel (td ty : TE) : TS := fun D σ H => td σ H fun x H1 => ty σ H1 fun y H2 => ∃ a kvs k, x = .ref a ∧ H2 a = some (.dK kvs) ∧ y = kV k ∧ (valV kvs k).isSome = true ∧ D.nx σ (upd H2 a (.dK (dropK kvs k)))
section
variable {X : Cx} {o i e value : Expr} {pos pos' tpos : Pos} {td ty tv : TE}
end
theorem dk_empty {P : Program} {w : World} {H : Hp} (h : Heap) (hb : sysModules < h.objs.size) : ObjOk P w H (h.push { cls := .type "dict", data := .dict #[] }) h.objs.size (.dK []) :=
  ⟨Nat.zero_le _, beq_eq_false_iff_ne.mpr (Ne.symm (Nat.ne_of_lt hb)), [], .nil, Heap.DictOf.new h⟩
def tDNewK : TE := fun _ H Q => ∀ p, H p = none → Q (.ref p) (upd H p (.dK []))
def tDNewT : TE := fun _ H Q => ∀ p, H p = none → Q (.ref p) (upd H p (.dT []))
section
variable {X : Cx} {pos : Pos}
theorem pe_dnewK : PE X (.Dict [] [] pos) tDNewK := fun pins s σ H Q I h =>
  wpAny_Dict_empty ⟨.ref s.heap.objs.size, _, I.laid (a := s.heap.objs.size) (o := .dK []) (t' := s.toks) (fun _ _ q => Heap.get?_push_of_some _ q) (Nat.le_refl _) (dk_empty s.heap I.big), rfl, h _ (I.hok.fresh (Nat.le_refl _))⟩
end
def tPairs : List (TE × TE) → St → Hp → (List (V × V) → Hp → Prop) → Prop
  | [], _, H, Q => Q [] H
  | (tk, tv) :: r, σ, H, Q => tk σ H fun x H1 => tv σ H1 fun y H2 => tPairs r σ H2 fun ps H3 => Q ((x, y) :: ps) H3
abbrev VV : List (V × V) → List (Value × Value) → Prop := Paired fun p q => RelV p.1 q.1 ∧ RelV p.2 q.2
def PPs (X : Cx) (pos : Pos) (keys : List (Option Expr)) (values : List Expr) (trs : List (TE × TE)) : Prop :=
  ∀ (pins : List (Addr × Obj)) (s : Shared) (σ : St) (H : Hp) (Q : List (V × V) → Hp → Prop), Inv X pins σ H s → tPairs trs σ H Q →
    wpAny (model X.prog X.w) X.A (evalPairs (pairTrees keys values X.env pos)) (fun vs s' => ∃ ps H', Inv X pins σ H' s' ∧ VV ps vs ∧ Q ps H') X.xe s
def mergeK (kvs more : List (Key × V)) : List (Key × V) := more.foldl (fun acc kv => putK acc kv.1 kv.2) kvs
def tDisp (trs : List (TE × TE)) : TE := fun σ H Q => ∀ p, H p = none → tPairs trs σ (upd H p (.dK [])) fun ps H2 => H2 p = some (.dK []) ∧ ∃ kvs : List (Key × V), ps = kvs.map (fun kv => (kV kv.1, kv.2)) ∧ kvs.length ≤ 15 ∧ Q (.ref p) (upd H2 p (.dK (mergeK [] kvs)))
structure M1 (X : Cx) (o : Expr) (m : Str) (apos : Pos) (e : Expr) (cpos : Pos) : Prop where
  base : attributeBase o m X.env (eval o X.env) = eval o X.env
  few : ((backTo cpos (starEach [e] X.env)).all (fun x => !x.1) && (backToKw cpos (keywordEach [] X.env)).all (fun x => x.1.isSome)
    && decide (([e] : List Expr).length + ([] : List Keyword).length + (if ([] : List Keyword).isEmpty then 0 else 1) < 30)) = true
  line : (apos.endLine == cpos.line) = true
  trees : backTo cpos (starEach [e] X.env) = [(false, eval e X.env)]
structure M2 (X : Cx) (o : Expr) (m : Str) (apos : Pos) (e f : Expr) (cpos : Pos) : Prop where
  base : attributeBase o m X.env (eval o X.env) = eval o X.env
  few : ((backTo cpos (starEach [e, f] X.env)).all (fun x => !x.1) && (backToKw cpos (keywordEach [] X.env)).all (fun x => x.1.isSome)
    && decide (([e, f] : List Expr).length + ([] : List Keyword).length + (if ([] : List Keyword).isEmpty then 0 else 1) < 30)) = true
  line : (apos.endLine == cpos.line) = true
  trees : backTo cpos (starEach [e, f] X.env) = [(false, eval e X.env), (false, eval f X.env)]
def IsD (H : Hp) (a : Addr) : Prop := (∃ kvs, Rd H a (.dK kvs)) ∨ ∃ kvs, Rd H a (.dT kvs)
section
variable {X : Cx} {pins : List (Addr × Obj)} {σ : St} {H : Hp} {s : Shared} {a : Addr} {y d : V} {u r : Value} {o : Option V} {A : Around} {E : Value → Shared → Prop}
end
def tDGet1 (td ty : TE) : TE := fun σ H Q => td σ H fun x H1 => ∃ a, x = .ref a ∧ IsD H1 a ∧ ty σ H1 fun y H2 => ∃ o, DGet H2 a y o ∧ Q (o.getD .non) H2
def tDGet2 (td ty tx : TE) : TE := fun σ H Q => td σ H fun x H1 => ∃ a, x = .ref a ∧ IsD H1 a ∧ ty σ H1 fun y H2 => tx σ H2 fun z H3 => ∃ o, DGet H3 a y o ∧ Q (o.getD z) H3
def tDPop1 (td ty : TE) : TE := fun σ H Q => td σ H fun x H1 => ∃ a, x = .ref a ∧ IsD H1 a ∧ ty σ H1 fun y H2 => ∃ kvs k v, H2 a = some (.dK kvs) ∧ y = kV k ∧ valV kvs k = some v ∧ Q v (upd H2 a (.dK (dropK kvs k)))
def tDPop2 (td ty tx : TE) : TE := fun σ H Q => td σ H fun x H1 => ∃ a, x = .ref a ∧ IsD H1 a ∧ ty σ H1 fun y H2 => tx σ H2 fun z H3 => ∃ kvs k, H3 a = some (.dK kvs) ∧ y = kV k ∧
  (∀ v, valV kvs k = some v → Q v (upd H3 a (.dK (dropK kvs k)))) ∧ (valV kvs k = none → Q z H3)
section
variable {X : Cx} {o e f : Expr} {apos cpos : Pos} {td ty tx : TE}
end
section
variable {X : Cx} {pins : List (Addr × Obj)} {σ : St} {H : Hp} {s : Shared} {a : Addr} {kvs : List (Key × V)} {A : Around} {E : Value → Shared → Prop}
end
section
variable {X : Cx} {pins : List (Addr × Obj)} {σ : St} {H : Hp} {s : Shared} {a : Addr} {y : V} {u : Value} {A : Around} {E : Value → Shared → Prop}
end
end L2
namespace Att
open PySem PySem.W PySem.Calls PyProof.Rows
theorem ints_of_wellAll {P : Params} {h : Heap} : ∀ (ns : List Int) (vs : List Value), WellAll P h vs (ns.map WData.int) → IntsAre vs ns := by
  intro ns
  induction ns with
  | nil =>
    intro vs w
    rw [List.map_nil] at w
    cases w
    exact .nil
  | cons n ns ih =>
    intro vs w
    rw [List.map_cons] at w
    cases w with
    | cons a b =>
      cases a
      exact .cons _ _ (ih _ b)
theorem script_of {l : OpenLaw} {n : Nat} (hn : l.most = some n) {P : Params} {h : Heap} {args : List WData} {vals : List Value}
    (hpre : l.row.toRowW.claim.pre args = true) (hwl : WellAll P h vals args) :
    ∃ a vs ns, vals = [Value.ref a] ∧ args = [WData.list (ns.map WData.int)] ∧ h.get? a = some { cls := .type "list", data := .seq vs.toArray } ∧ IntsAre vs ns ∧ ns.length ≤ n := by
  have hsh : WShape.hasAll [] args [.list .int] = true := (pre_splitW hpre).1
  have hc : l.pre.holds [] { args := args } = true := (pre_splitW hpre).2
  obtain ⟨d, r, rfl, h1, h2⟩ := hasAllW_cons hsh
  obtain rfl := hasAllW_nil h2
  obtain ⟨xs, rfl, h3⟩ := hasW_list h1
  obtain ⟨ns, rfl⟩ := items_int h3
  have hlen : ns.length ≤ n := by
    unfold OpenLaw.pre at hc
    have h4 : (WTm.not (.lt (.lit (.int (n : Int))) (.len (.arg 0)))).holds [] { args := [.list (ns.map .int)] } = true := by
      have h4 := (holds_andW hc).1
      rw [hn] at h4
      exact h4
    have h5 := condW_of h4 (w_not (w_lt w_lit (w_len_list (w_arg rfl))))
    rw [List.length_map] at h5
    refine Nat.le_of_not_lt fun q => ?_
    have q' : (n : Int) < ((ns.length : Nat) : Int) := by omega
    first
      | (rw [decide_eq_true q'] at h5; exact absurd h5 (by decide))
      | (simp at h5; omega)
  cases hwl with
  | cons w1 w2 =>
    cases w2
    cases w1 with
    | list ho hall => exact ⟨_, _, ns, rfl, rfl, ho, ints_of_wellAll ns _ hall, hlen⟩
theorem post_true (l : OpenLaw) (args : List WData) : l.row.toRowW.claim.post args (.bool true) args = true :=
  postW_of (r := l.row.toRowW) (X := (true == true))
    (show WShape.has [] (.bool true) .bool = true by first | rfl | decide | simp [WShape.has, WShape.arms, WShape.armsAll])
    (show (WTm.eq .res (.lit (.bool true))).value [] { args := args, res := some (.bool true), after := args } = some (.bool (true == true)) from w_eq_bool (w_res rfl) w_lit) rfl
theorem attach_call {l : OpenLaw} {n : Nat} {q : Program} {loose : List Str} {XP : (Str → Option Value) → Heap → Prop} {YP : World → Heap → Prop} {d : DefRec}
    (hn : l.most = some n) (hdf : d.params.defaults = [])
    (call : ∀ (w : World) (s₀ s₁ : Shared) (mg mb : Str → Option Value) (fa : Addr) (o : Obj) (pm cd doc : Value) (a : Addr) (vs : List Value) (ns : List Int),
      Ground q loose [] XP w s₀ mg mb s₁.heap → YP w s₁.heap →
      s₁.heap.get? fa = some o → o.data = .func (docDef d.name d.params d.body d.scope pm cd doc) → s₁.heap.CodeRec cd d.name → mg d.name = some (.ref fa) →
      s₁.heap.get? a = some { cls := .type "list", data := .seq vs.toArray } → IntsAre vs ns → ns.length ≤ n → s₁.gens = #[] →
      codeAny (model l.prog w) callerA (.call (.ref fa) ⟨[.ref a], []⟩) (fun r s' => r = .ok (.ret (.bool true)) ∧ OldK s₁.heap s'.heap ∧ s'.os = s₁.os ∧ AllBare s'.gens) s₁) :
    WalkO q loose XP YP l.row.toRowW d [] (fun f vs => PySem.call f vs) := by
  intro w s₀ s₁ mg mb G Y fa o pm cd doc dV kV ho hd hcd hD hmg hg args vals as hpre hlay hrd hwl hlo
  obtain rfl : dV = .none := Dflts.none hD hdf
  obtain rfl : kV = .none := Dflts.noKw hD
  obtain ⟨a, vs, ns, rfl, rfl, hobj, hints, hlen⟩ := script_of hn hpre hwl
  refine enter_call (codeAny_mono (call w s₀ s₁ mg mb fa o pm cd doc a vs ns G Y ho (fd_plain hd) hcd hmg hobj hints hlen hg) fun r s' hq => ?_)
  obtain ⟨rfl, h2, h3, h4⟩ := hq
  exact ⟨.inl ⟨.bool true, .bool true, [], rfl, fun _ => rfl, .bool true, post_true l _, fun _ => ⟨List.Pairwise.nil, fun _ hm => (nomatch hm)⟩⟩, h2, h3, h4⟩
section
variable {prog : Program} {w : World} {A : Around} {E : Value → Shared → Prop} {s : Shared} {K : Frag}
def noObjs (h : Heap) : Heap := { h with objs := #[] }
def ledger (h : Heap) (L d : Addr) : List (Addr × Obj) := (List.range h.objs.size).filterMap fun a => if a = L ∨ a = d then none else (h.get? a).map fun o => (a, o)
end
end Att
namespace L2
open PySem PySem.Spec PyProof.Rows
theorem vals_ints : ∀ {vs : List Value} {ns : List Int}, IntsAre vs ns → Vals (ns.map V.int) vs
  | _, _, .nil => .nil
  | _, _, .cons n t h => .cons ⟨t, rfl⟩ (vals_ints h)
def Only (H : Hp) : Prop := ∀ b, H b = none ∨ ∃ o xs, H b = some (.frz o (.lst xs))
theorem law_call {P : Program} {w : World} {K : PySem.W.Frag} {mg mb : Str → Option Value} {CX : CXT} {k : Nat} {fa a : Addr} {fd : FuncData} {x : Str} {sp : Sp} {s₁ : Shared} {vs : List Value} {ns : List Int}
    (KX : K.In s₁.heap) (hns : s₁.heap.Ns mainGlobals mg) (hb : s₁.heap.Ns builtinsNs mb) (hbb : ∀ x : Str, x ≠ "__name__" → mb x = bootBuiltins x) (hlim : s₁.heap.NoLimit) (hg : s₁.gens = #[])
    (ha : s₁.heap.get? a = some { cls := .type "list", data := .seq vs.toArray }) (hi : IntsAre vs ns) (hl : ns.length ≤ sizeLine) (hr : Room k callerA)
    (F : ∀ base : Heap, K.In base → base.Ns mainGlobals mg → FnOk P w K mg base CX k fa fd [x] sp) (hbind : ∀ (s : Shared) (u : Value), BindsTo s fd ⟨[u], []⟩ [(x, u)])
    (hsp : ∀ H : Hp, Only H → SqL K H a (ns.map V.int) → sp [.ref a] H (fun v _ => v = .bl true) fun _ _ _ => False)
    (hCX : ∀ H e s', CX [] H s₁ (fun _ _ _ => False) e s' → False) :
    codeAny (model P w) callerA (.call (.ref fa) ⟨[.ref a], []⟩) (fun r s' => r = .ok (.ret (.bool true)) ∧ OldK s₁.heap s'.heap ∧ s'.os = s₁.os ∧ AllBare s'.gens) s₁ := by
  have rv := vals_ints hi
  have lenV := hi.length
  have core : ∀ H : Hp, Only H → SqL K H a (ns.map V.int) → HOk P w H s₁.heap → (∀ b, H b ≠ none → b = a) → (H a ≠ none → K.lookup a = none) →
      codeAny (model P w) callerA (.call (.ref fa) ⟨[.ref a], []⟩) (fun r s' => r = .ok (.ret (.bool true)) ∧ OldK s₁.heap s'.heap ∧ s'.os = s₁.os ∧ AllBare s'.gens) s₁ := by
    intro H hO hS hok hA hK
    have base_of : ∀ {b : Addr} {o : Obj}, s₁.heap.get? b = some o → H b = none → (hidT s₁.heap H).get? b = some o := fun e n => hidT_get e n
    have noA : ∀ {b : Addr} {o : Obj} {es : Array DictEntry} {ep : Nat}, s₁.heap.get? b = some o → o.data = .dict es ep → H b = none := fun {b o es ep} e d => by
      cases q : H b with
      | none => rfl
      | some u =>
        have e' : b = a := hA b (by rw [q]; simp)
        subst e'
        rw [ha] at e; cases e
        have d' : Data.seq vs.toArray _ = Data.dict es ep := d
        cases d'
    have nsK : ∀ {b : Addr} {m : Str → Option Value}, s₁.heap.Ns b m → (hidT s₁.heap H).Ns b m := fun {b m} ⟨o, es, ep, e, d, r⟩ => ⟨o, es, ep, base_of e (noA e d), d, r⟩
    have hKb : K.In (hidT s₁.heap H) := fun b o e => base_of (KX b o e) (by
      cases q : H b with
      | none => rfl
      | some u =>
        have e' : b = a := hA b (by rw [q]; simp)
        subst e'
        rw [hK (by rw [q]; simp)] at e; cases e)
    have hM : Mod K mg (hidT s₁.heap H) := ⟨hKb, nsK hns, ⟨mb, nsK hb, hbb⟩, let ⟨mc, h1, h2⟩ := hlim; ⟨mc, nsK h1, h2⟩⟩
    have e0 : Env0 P w K mg (hidT s₁.heap H) callerA [] s₁ H := ⟨rfl, hM, fun b o e => of_hidT e, Nat.le_of_eq (hidT_size _ _), trivial, fun b hb => absurd (show b ∈ ([] : List Addr) from hb) (by simp), hok, .of_eq hg⟩
    refine codeAny_mono ((F _ hKb (nsK hns)).run callerA [] s₁ H ⟨[.ref a], []⟩ [.ref a] [.ref a] _ _ hr e0 (hbind s₁ (.ref a)) (.cons rfl .nil) (hsp H hO hS)) fun r s' h => ?_
    cases r with
    | error e => exact (hCX H e s' h).elim
    | ok fl =>
      cases fl with
      | next => exact False.elim h
      | brk => exact False.elim h
      | cont => exact False.elim h
      | ret u =>
        obtain ⟨v, H', os, bare, un, hok', r', q⟩ := h
        have q' : v = .bl true := q
        subst q'
        obtain rfl : u = Value.bool true := r'
        refine ⟨rfl, OldK.of_keep fun b o e => ?_, os, bare⟩
        cases q : H b with
        | none => exact un.keep b o e q (by intro z; exact absurd (show b ∈ ([] : List Addr) from z) (by simp)) (by simp)
        | some u =>
          rcases hO b with z | ⟨ob, xs, z⟩
          · rw [q] at z; cases z
          · have z2 := un.frzs b ob _ z
            obtain ⟨e1, _⟩ := hok b _ z
            obtain ⟨e2, _⟩ := hok' b _ z2
            rw [e] at e1; cases e1
            exact e2
  cases hk : K.lookup a with
  | some o =>
    have e := KX a o hk
    rw [ha] at e
    cases e
    refine core (fun _ => none) (fun _ => .inl rfl) (.inr ⟨_, vs.toArray, _, hk, rfl, rfl, rfl, by rw [List.size_toArray, lenV]; exact hl, by simpa using rv⟩) (fun b u z => by have z' : (none : Option HO) = some u := z; cases z') (fun b z => absurd rfl z) fun z => absurd rfl z
  | none =>
    refine core (fun b => if b = a then some (.frz { cls := .type "list", data := .seq vs.toArray } (.lst (ns.map V.int))) else none) (fun b => ?_) (.inl (.inr ⟨{ cls := .type "list", data := .seq vs.toArray }, if_pos rfl⟩)) (fun b u z => ?_) (fun b z => ?_) fun _ => hk
    · by_cases hb : b = a
      · exact .inr ⟨_, _, if_pos hb⟩
      · exact .inl (if_neg hb)
    · by_cases hb : b = a
      · have z' := (if_pos hb).symm.trans z
        cases z'
        subst hb
        exact ⟨ha, by rw [List.length_map]; exact hl, vs, _, rv, ha⟩
      · have z' := (if_neg hb).symm.trans z
        cases z'
    · by_cases hb : b = a
      · exact hb
      · exact absurd (if_neg hb) z
end L2
namespace L2
open PySem PySem.Spec PyProof.Rows
abbrev KOf {K : PySem.W.Frag} {h : Heap} (_ : K.In h) : PySem.W.Frag := K
theorem walk_of {l : PySem.W.OpenLaw} {n k : Nat} {q : Program} {loose : List Str} {XP : (Str → Option Value) → Heap → Prop} {YP : World → Heap → Prop} {d : DefRec} {K : Params → PySem.W.Frag} {CX : World → CXT} {sp : World → Sp} {x : Str}
    (hn : l.most = some n) (hn2 : n ≤ sizeLine) (hdf : d.params.defaults = []) (hr : Room k callerA)
    (hY : ∀ (w : World) (h : Heap), YP w h → (K w.params).In h)
    (F : ∀ (w : World) (mg : Str → Option Value) (fa : Addr) (h : Heap), (K w.params).In h → h.Ns mainGlobals mg → mg d.name = some (.ref fa) →
      ∃ fd : FuncData, (∀ (s : Shared) (u : Value), BindsTo s fd ⟨[u], []⟩ [(x, u)]) ∧
        ∀ base : Heap, (K w.params).In base → base.Ns mainGlobals mg → FnOk l.prog w (K w.params) mg base (CX w) k fa fd [x] (sp w))
    (hsp : ∀ (w : World) (H : Hp) (a : Addr) (ns : List Int), ns.length ≤ n → Only H → SqL (K w.params) H a (ns.map V.int) → sp w [.ref a] H (fun v _ => v = .bl true) fun _ _ _ => False)
    (hCX : ∀ (w : World) (H : Hp) (s : Shared) (e : Value) (s' : Shared), CX w [] H s (fun _ _ _ => False) e s' → False) :
    PySem.W.WalkO q loose XP YP l.row.toRowW d [] (fun f vs => PySem.call f vs) := by
  refine Att.attach_call hn hdf fun w s₀ s₁ mg mb fa o pm cd doc a vs ns G Y ho hd hcd hmg hobj hints hlen hg => ?_
  have KX := hY w _ Y
  obtain ⟨fd, hb, hF⟩ := F w mg fa _ KX G.T.g hmg
  exact law_call KX G.T.g G.T.b G.T.builtins G.T.nolimit hg hobj hints (Nat.le_trans hlen hn2) hr hF hb (fun H hO hS => hsp w H a ns hlen hO hS) fun H e s' => hCX w H s₁ e s'
end L2
namespace L2
open PySem PySem.Spec PyProof.Rows
def inClass (s : Stmt) (j : Nat) : Stmt := match s with
  | .ClassDef _ _ _ body _ _ _ _ _ _ _ => body.getD j (.Pass ⟨0, 0, 0, 0⟩)
  | _ => .Pass ⟨0, 0, 0, 0⟩
def defArgs (s : Stmt) : Arguments := match s with
  | .FunctionDef _ a _ _ _ _ _ _ _ _ => a
  | _ => { posonlyargs := [], args := [], vararg := none, kwonlyargs := [], kw_defaults := [], kwarg := none, defaults := [] }
def defBody (s : Stmt) : List Stmt := match s with
  | .FunctionDef _ _ b _ _ _ _ _ _ _ => b
  | _ => []
def defScope (s : Stmt) : Scope := match s with
  | .FunctionDef _ _ _ _ _ _ sc _ _ _ => sc
  | _ => { kind := .function, names := [], isGenerator := false, isCoroutine := false }
abbrev CX0 : CXT := fun _ _ _ _ _ _ => False
abbrev E0 : XK := fun _ _ _ => False
theorem pass0 {X : Cx} : Passes CX0 X E0 := fun _ _ _ _ _ _ _ h => h.elim
structure Fun (K : PySem.W.Frag) (x qual : Str) (st : Stmt) (f : Addr) (fd : FuncData) : Prop where
  ex : ∃ (oc : Value) (od : Option Addr) (kV doc pm : Value) (an : Option Addr) (cdv ct : Value) (osl : Array (Option Value)),
    fd = PySem.W.fnOf x qual (defArgs st) (defBody st) (defScope st) .none kV doc pm an cdv ct ∧ K.lookup f = some ⟨oc, od, .func fd, osl⟩ ∧ PySem.W.codeIn K cdv qual = true
  kp : PySem.W.keepIn K (.ref f) = true
section
variable {P : Program} {w : World} {K : PySem.W.Frag} {mg : Str → Option Value} {base : Heap}
theorem Fun.ok {x qual : Str} {st : Stmt} {f : Addr} {fd : FuncData} {N ps : List Str} {k : Nat} {sp : Sp} (F : Fun K x qual st f fd) (S : FnScope N ps (defScope st)) (len : ∀ vs H Q E, sp vs H Q E → vs.length = ps.length)
    (hbody : ∀ (cdv : Value) (A : Around) (outer : List Env) (s : Shared) (H : Hp) (vs : List V) (Q : VK) (E : XK), Room k (A.deeper (envOfC qual (defScope st) s.heap.objs.size f cdv)) → sp vs H Q E →
      ∃ t, PSs (cxOf CX0 P w K mg base N qual (defScope st) f cdv A outer s H E).nox (defBody st) t ∧ t { nx := fun _ H' => Q .non H', rt := Q } (start N vs) H) : FnOk P w K mg base CX0 (k + 1) f fd ps sp := by
  obtain ⟨oc, od, kV, doc, pm, an, cdv, ct, osl, rfl, lk, hcd⟩ := F.ex
  refine fn_of lk hcd S len fun A outer s H vs Q E hr hsp => ?_
  obtain ⟨t, h, q⟩ := hbody cdv A outer s H vs Q E hr hsp
  exact ⟨t, h.nox, q⟩
theorem Fun.binds {x qual : Str} {st : Stmt} {f : Addr} {fd : FuncData} {ps : List Str} (F : Fun K x qual st f fd)
    (h : ∀ (kV doc pm : Value) (an : Option Addr) (cdv ct : Value) (us : List Value), us.length = ps.length → bindArgs (PySem.W.fnOf x qual (defArgs st) (defBody st) (defScope st) .none kV doc pm an cdv ct) ⟨us, []⟩ = pure (ps.zip us)) : Binds K fd ps [] := by
  obtain ⟨oc, od, kV, doc, pm, an, cdv, ct, osl, rfl, lk, hcd⟩ := F.ex
  exact .all (h kV doc pm an cdv ct)
theorem fun_mk {x qual : Str} {st : Stmt} {f : Addr} {oc : Value} {od an : Option Addr} {osl : Array (Option Value)} {kV doc pm cdv ct : Value} (l : K.lookup f = some ⟨oc, od, .func (PySem.W.fnOf x qual (defArgs st) (defBody st) (defScope st) .none kV doc pm an cdv ct), osl⟩)
    (c : PySem.W.codeIn K cdv qual = true) (k : PySem.W.keepIn K (.ref f) = true) : Fun K x qual st f (PySem.W.fnOf x qual (defArgs st) (defBody st) (defScope st) .none kV doc pm an cdv ct) := ⟨⟨oc, od, kV, doc, pm, an, cdv, ct, osl, rfl, l, c⟩, k⟩
end
theorem hu_of {A : Around} {k : Nat} (hr : Room k A) : A.units + 1 < cLine := Nat.lt_of_le_of_lt (Nat.add_le_add_left (by decide : 1 ≤ 64) _) hr.units
section
variable {X : Cx}
theorem pv (i : Nat) {x : Str} {pos : Pos} (hN : X.N[i]? = some x := by rfl) (hv : Vis X.env.scope x := by first | exact Or.inl rfl | exact Or.inr (Or.inl rfl) | exact Or.inr (Or.inr rfl)) (hd : (x == ("__debug__" : Str)) = false := by decide)
    (hcd : (x == ("__classdict__" : Str)) = false := by decide) : PE X (.Name x pos) (tVar i) := pe_var hN hv hd hcd
end
theorem iteF {A B : Prop} (h : B) : if false = true then A else B := by
  rw [if_neg Bool.false_ne_true]
  exact h
theorem iteT {A B : Prop} (h : A) : if true = true then A else B := by
  rw [if_pos rfl]
  exact h
def Same (H H' : Hp) : Prop := ∀ b o, H b = some o → H' b = some o
theorem Same.refl (H : Hp) : Same H H := fun _ _ h => h
theorem Same.trans {H H1 H2 : Hp} (a : Same H H1) (b : Same H1 H2) : Same H H2 := fun c o h => b c o (a c o h)
theorem Same.free {H H' : Hp} (e : Same H H') {l : Addr} (h : H' l = Option.none) : H l = Option.none := by
  cases q : H l with
  | none => rfl
  | some o =>
    rw [e l o q] at h
    cases h
theorem Same.seq {K : PySem.W.Frag} {H H' : Hp} {a : Addr} {xs : List V} (e : Same H H') (h : SqL K H a xs) : SqL K H' a xs := by
  rcases h with (h | ⟨o, h⟩) | h
  · exact .inl (.inl (e _ _ h))
  · exact .inl (.inr ⟨o, e _ _ h⟩)
  · exact .inr h
section
variable {κ : Type} [DecidableEq κ]
end
end L2
set_option Elab.async false
set_option linter.all false
set_option maxRecDepth 100000
set_option maxHeartbeats 4000000
namespace L2
open PySem PySem.Spec PyProof.Rows
section
variable {X : Cx}
theorem call_isinst : CallR X (.builtin "isinstance") (fun xs H Q => ∃ x T t b, xs = [x, .ty T] ∧ TyOf X.K H x t ∧ PySem.W.kitOne X.K t (.type T) = some b ∧ Q (.bl b) H) := by
  intro pins s σ H xs us Q I r h
  obtain ⟨x, T, t, b, rfl, ty, e, q⟩ := h
  obtain ⟨u, w', rfl, rx, rt⟩ := vals2 r
  obtain rfl : w' = Value.type T := rt
  exact isinst_ok I rx ty e fun tk => ⟨.bl b, H, I.tok _, rfl, q⟩
end
def tJ (t : TS) : TS := fun D σ H => ∃ M : St → Hp → Prop, t { D with nx := M } σ H ∧ ∀ σ' H', M σ' H' → D.nx σ' H'
theorem ps_join {X : Cx} {st : Stmt} {t : TS} (h : PS X st t) : PS X st (tJ t) := by
  intro pins s σ H D I hw
  obtain ⟨M, hw, hM⟩ := hw
  refine thn (h pins s σ H _ I hw) fun f s1 q => ?_
  cases f with
  | next =>
    obtain ⟨σ', H', I', q⟩ := q
    exact ⟨σ', H', I', hM σ' H' q⟩
  | ret v => exact q
  | brk => exact q
  | cont => exact q
section
variable {X : Cx}
end
def Itc (lo c : Int) (n : Nat) : It := ⟨fun i _ => i < n, fun i H x H' => H' = H ∧ x = .int (lo + i * c), fun i _ => n ≤ i⟩
def turnsC (lo hi c : Int) : Nat := (Builtin.Range.rangeSize lo hi c).toNat
section
variable {X : Cx} {tg : Expr}
def iRng3 (ta : TA) : TI := fun σ H R => ta σ H fun vs H1 => ∃ i j c : Int, vs = [.int i, .int j, .int c] ∧ (-(2 ^ 60) ≤ i ∧ i < 2 ^ 60 ∧ -(2 ^ 60) ≤ j ∧ j < 2 ^ 60) ∧ (0 < c ∧ c < 2 ^ 20) ∧ R (Itc i c (turnsC i j c)) H1
end
def plainE : Expr → Bool
  | .Starred _ _ => false
  | _ => true
theorem starEach_plain {e : Expr} (he : plainE e = true) (rest : List Expr) (env : Env) : starEach (e :: rest) env = (false, eval e env) :: starEach rest env := by
  cases e <;> first | rfl | (exact absurd (show false = true from he) Bool.false_ne_true)
theorem starAny_plain : ∀ {es : List Expr} (_ : es.all plainE = true) (env : Env) (pos : Pos), (backTo pos (starEach es env)).any (·.1) = false
  | [], _, _, _ => rfl
  | e :: es, h, env, pos => by
    rw [List.all_cons, Bool.and_eq_true] at h
    rw [starEach_plain h.1]
    exact starAny_plain h.2 env pos
theorem pa_c {X : Cx} {e : Expr} {es : List Expr} {te : TE} {t : TA} (ha : PE X e te) (hr : PA X es t) (hs : plainE e = true := by rfl) : PA X (e :: es) (tCons te t) := pa_cons ha hr (starEach_plain hs es X.env)
def intsOf : List Expr → Option (List Int)
  | [] => some []
  | .Constant (.int i) _ _ :: r => (intsOf r).map (i :: ·)
  | _ => none
theorem pa_ints {X : Cx} : ∀ {es : List Expr} {is : List Int}, intsOf es = some is → PA X es (fun _ H Q => Q (is.map V.int) H)
  | [], is, h => by
    cases (show some [] = some is from h)
    exact pa_nil
  | e :: es, is, h => by
    have : ∃ i k p, e = .Constant (.int i) k p := by
      unfold intsOf at h
      split at h
      · rename_i q; cases q
      · rename_i i k p r q; cases q; exact ⟨i, k, p, rfl⟩
      · cases h
    obtain ⟨i, k, p, rfl⟩ := this
    have h' : (intsOf es).map (i :: ·) = some is := h
    cases e2 : intsOf es with
    | none => rw [e2] at h'; cases h'
    | some js =>
      rw [e2] at h'
      cases (show some (i :: js) = some is from h')
      exact pa_c (te := tC (.int i)) pe_int (pa_ints e2) rfl
theorem pe_gref {X : Cx} {x : Str} {a : Addr} {pos : Pos} (hm : X.mg x = some (.ref a)) (hg : Gl X x := by rfl) (hd : (x == ("__debug__" : Str)) = false := by decide) : PE X (.Name x pos) (tC (.ref a)) := pe_glob (v := .ref a) hg hm rfl hd
theorem pe_gint {X : Cx} {x : Str} {i : Int} {t : Tok} {pos : Pos} (hm : X.mg x = some (.int i t)) (hg : Gl X x := by rfl) (hd : (x == ("__debug__" : Str)) = false := by decide) : PE X (.Name x pos) (tC (.int i)) := pe_glob (v := .int i) hg hm ⟨t, rfl⟩ hd
theorem pe_ty {X : Cx} {x : Str} {n : String} {pos : Pos} (hm : X.mg x = none) (hv : bootBuiltins x = some (.type n)) (hg : Gl X x := by rfl) (hn : x ≠ "__name__" := by decide) (hd : (x == ("__debug__" : Str)) = false := by decide) : PE X (.Name x pos) (tC (.ty n)) := pe_bltn (v := .ty n) hg hm hv rfl hn hd
theorem pe_b {X : Cx} {x : Str} {p pos : Pos} {e : Expr} {es : List Expr} {t : TA} {id : String} {r : List V → Hp → VK → Prop} (hc : CallR X (.builtin id) r) (hm : X.mg x = none) (hv : bootBuiltins x = some (.builtin id)) (ha : PA X (e :: es) t) (hp : plainE e = true := by rfl) (hps : es.all plainE = true := by rfl) (hg : Gl X x := by rfl)
    (hn : x ≠ "__name__" := by decide) (hdb : (x == ("__debug__" : Str)) = false := by decide) : PE X (.Call (.Name x p) (e :: es) [] pos) (tCB r t) := pe_callB hc hg hm hv ha hn hdb (starEach_plain hp _ _) (starAny_plain hps _ _)
theorem pe_t {X : Cx} {x : Str} {p pos : Pos} {e : Expr} {es : List Expr} {t : TA} {T : String} {r : List V → Hp → VK → Prop} (hc : CallR X (.type T) r) (hm : X.mg x = none) (hv : bootBuiltins x = some (.type T)) (ha : PA X (e :: es) t) (hp : plainE e = true := by rfl) (hps : es.all plainE = true := by rfl) (hg : Gl X x := by rfl)
    (hn : x ≠ "__name__" := by decide) (hdb : (x == ("__debug__" : Str)) = false := by decide) : PE X (.Call (.Name x p) (e :: es) [] pos) (tCB r t) := pe_callTy hc hg hm hv ha hn hdb (starEach_plain hp _ _) (starAny_plain hps _ _)
theorem upd_old {H : Hp} {p q : Addr} {o u : HO} (h : H q = some o) (hn : H p = none) : upd H p u q = some o := by
  rw [upd_ne (ne_of_none h hn)]
  exact h
theorem Same.new {H H1 : Hp} {p : Addr} {o : HO} (s : Same H H1) (h : H1 p = none) : Same H (upd H1 p o) := fun b u e => upd_old (s b u e) h
theorem iteFB {b : Bool} {A B : Prop} (e : b = false) (h : B) : if b = true then A else B := by subst e; exact iteF h
theorem iteTB {b : Bool} {A B : Prop} (e : b = true) (h : A) : if b = true then A else B := by subst e; exact iteT h
theorem iteDT {c A B : Prop} [Decidable c] (hc : c) (h : A) : if decide c = true then A else B := iteTB (decide_eq_true hc) h
theorem iteDF {c A B : Prop} [Decidable c] (hc : ¬ c) (h : B) : if decide c = true then A else B := iteFB (decide_eq_false hc) h
theorem iteD {c A B : Prop} [Decidable c] (h1 : c → A) (h2 : ¬ c → B) : if decide c = true then A else B := by
  by_cases h : c
  · exact iteDT h (h1 h)
  · exact iteDF h (h2 h)
theorem iteN {c A B : Prop} [Decidable c] (h1 : ¬ c → A) (h2 : c → B) : if (!decide c) = true then A else B := by
  by_cases h : c
  · exact iteFB (by rw [decide_eq_true h]; rfl) (h2 h)
  · exact iteTB (by rw [decide_eq_false h]; rfl) (h1 h)
structure Def (K : PySem.W.Frag) (mg : Str → Option Value) (x : Str) (st : Stmt) (ps : List Str) (f : Addr) (fd : FuncData) : Prop where
  F : Fun K x x st f fd
  b : Binds K fd ps []
  m : mg x = some (.ref f)
theorem pe_def {X : Cx} {x : Str} {st : Stmt} {ps : List Str} {f : Addr} {fd : FuncData} {k : Nat} {sp : Sp} {p pos : Pos} {e : Expr} {es : List Expr} {t : TA} (D : Def X.K X.mg x st ps f fd) (G : FnOk X.prog X.w X.K X.mg X.base CX0 k f fd ps sp) (hr : Room k X.A) (ha : PA X (e :: es) t)
    (hp : plainE e = true := by rfl) (hps : es.all plainE = true := by rfl) (hg : Gl X x := by rfl) (hdb : (x == ("__debug__" : Str)) = false := by decide) :
    PE X (.Call (.Name x p) (e :: es) [] pos) (tCall sp [] E0 t) := pe_call G hr hg D.m D.F.kp D.b .nil pass0 ha hdb (starEach_plain hp _ _) (starAny_plain hps _ _)
structure TupC (K : PySem.W.Frag) (a : Addr) (xs : List V) : Prop where
  ex : ∃ (o : Obj) (its : Array Value) (n : Nat), K.lookup a = some o ∧ o.cls = .type "tuple" ∧ o.data = .seq its n ∧ its.size ≤ sizeLine ∧ Vals xs its.toList
theorem TupC.sq {K : PySem.W.Frag} {a : Addr} {xs : List V} (h : TupC K a xs) (H : Hp) : SqT K H a xs := .inr h.ex
end L2
set_option Elab.async false
set_option linter.all false
set_option maxRecDepth 100000
set_option maxHeartbeats 4000000
namespace L2
open PySem PySem.Spec PyProof.Rows
theorem closure_is {env : Env} : ∀ (names : List (Str × NameKind)) (acc : List (Str × Addr)), (∀ x ∈ names, x.2 = .free → ∃ c, env.cells.lookup x.1 = some c) → (∀ x c, acc.lookup x = some c → env.cells.lookup x = some c) →
    ∃ cl : List (Str × Addr), (forIn (m := Sem) names acc fun (x : Str × NameKind) cs => if (x.2 == NameKind.free) = true then do let a ← cellOf env x.1; pure (ForInStep.yield ((x.1, a) :: cs)) else pure (ForInStep.yield cs)) = pure cl ∧
      (∀ x c, cl.lookup x = some c → env.cells.lookup x = some c) ∧ (∀ x, (∃ c, acc.lookup x = some c) → ∃ c, cl.lookup x = some c) ∧ (∀ x ∈ names, x.2 = .free → ∃ c, cl.lookup x.1 = some c)
  | [], acc, _, h => ⟨acc, rfl, h, fun _ z => z, fun _ z => nomatch z⟩
  | (n, k) :: r, acc, hf, h => by
    by_cases hk : k = .free
    · subst hk
      obtain ⟨c, hc⟩ := hf (n, .free) List.mem_cons_self rfl
      have hc' : cellOf env n = pure c := by unfold cellOf; rw [hc]
      obtain ⟨cl, e, h1, h2, h3⟩ := closure_is r ((n, c) :: acc) (fun x hx => hf x (List.mem_cons_of_mem _ hx)) (fun x d hx => by
        rw [List.lookup_cons] at hx
        split at hx
        · rename_i q
          have q' : x = n := by simpa using q
          cases hx
          rw [q']; exact hc
        · exact h x d hx)
      refine ⟨cl, ?_, h1, fun x ⟨d, hd⟩ => h2 x ?_, fun x hx hx2 => ?_⟩
      · rw [List.forIn_cons, ← e]
        simp only [beq_self_eq_true, if_true, hc']
        rfl
      · rw [List.lookup_cons]
        split
        · exact ⟨_, rfl⟩
        · exact ⟨d, hd⟩
      · rcases List.mem_cons.mp hx with rfl | hx
        · exact h2 n ⟨c, by simp⟩
        · exact h3 x hx hx2
    · obtain ⟨cl, e, h1, h2, h3⟩ := closure_is r acc (fun x hx => hf x (List.mem_cons_of_mem _ hx)) h
      refine ⟨cl, ?_, h1, h2, fun x hx hx2 => ?_⟩
      · rw [List.forIn_cons, ← e]
        have : (k == NameKind.free) = false := by simpa using hk
        simp only [this, Bool.false_eq_true, if_false]
        rfl
      · rcases List.mem_cons.mp hx with rfl | hx
        · exact absurd hx2 hk
        · exact h3 x hx hx2
theorem closureFor_is {scope : Scope} {env : Env} (hf : ∀ x ∈ scope.names, x.2 = .free → ∃ c, env.cells.lookup x.1 = some c) :
    ∃ cl : List (Str × Addr), closureFor scope env = pure cl ∧ (∀ x c, cl.lookup x = some c → env.cells.lookup x = some c) ∧ (∀ x ∈ scope.names, x.2 = .free → ∃ c, cl.lookup x.1 = some c) := by
  obtain ⟨cl, e, h1, _, h3⟩ := closure_is scope.names [] hf (fun _ _ z => by cases z)
  refine ⟨cl, ?_, h1, h3⟩
  simp only [closureFor]
  exact (congrArg (fun m : Sem (List (Str × Addr)) => m >>= fun s => pure s) e).trans rfl
section
variable {prog : Program} {w : World} {A : Around} {R : Result → Shared → Prop} {s : Shared}
theorem loop_turns {elt target iter : Expr} {ifs : List Expr} {scope : Scope} {pos : Pos} {it acc : Value} {env : Env} (I : Nat → Shared → Prop)
    (turn : ∀ n s, I n s → wpAny (model prog w) A (pyNext it) (fun r s₁ => match r with
      | none => R (.ok .next) s₁
      | some v => wpAny (model prog w) A (letOwnedTupleGo target it v) (fun _ s₁ => wpAny (model prog w) A (assign target env v) (fun _ s₂ =>
          wpAny (model prog w) A (forIn ifs true fun c r => if r = true then do let ok ← isTrue c env (eval c env); pure (ForInStep.yield ok) else pure (ForInStep.yield r)) (fun ok s₃ =>
            if ok = true then wpAny (model prog w) A (eval elt env) (fun x s₄ =>
              wpAny (model prog w) A (call (.builtin "list.append") [acc, x]) (fun _ s₅ => ∃ m, m < n ∧ I m s₅) (fun _ _ => False) s₄) (fun _ _ => False) s₃
            else ∃ m, m < n ∧ I m s₃) (fun _ _ => False) s₂) (fun _ _ => False) s₁) (fun _ _ => False) s₁) (fun _ _ => False) s)
    (n : Nat) (h : I n s) :
    codeAny (model prog w) A (.compLoop (.ListComp elt [⟨target, iter, ifs, 0⟩] scope pos) 0 it acc env) R s := by
  refine codeAny_loop rfl I (fun n s hI => ?_) n h
  show wpAny _ A ((compTurn (.ListComp elt [⟨target, iter, ifs, 0⟩] scope pos) 0 it acc env).onRaise (fun x => do noteFrame x env; theTreesLotGoes x)) _ _ s
  refine wpAny_noted ?_
  rw [compTurn_list]
  refine wpAny_bind (wpAny_standAt (wpAny_bind (wpAny_mono (turn n s hI) (fun r s₁ h₁ => ?_) fun _ _ h' => h'.elim)))
  cases r with
  | none => exact wpAny_pure h₁
  | some v =>
    refine wpAny_bind (wpAny_mono h₁ (fun _ s₁ h₁ => ?_) fun _ _ h' => h'.elim)
    refine wpAny_bind (wpAny_mono h₁ (fun _ s₂ h₂ => wpAny_bind (wpAny_mono h₂ (fun ok s₃ h₃ => ?_) fun _ _ h' => h'.elim)) fun _ _ h' => h'.elim)
    cases ok with
    | false => exact wpAny_pure ⟨rfl, h₃⟩
    | true =>
      exact wpAny_bind (wpAny_bind (wpAny_mono h₃ (fun x s₄ h₄ => wpAny_bind (wpAny_mono h₄ (fun _ s₅ h₅ => wpAny_pure (wpAny_pure ⟨rfl, h₅⟩)) fun _ _ h' => h'.elim)) fun _ _ h' => h'.elim))
end
def blk (X : Cx) (N' : List Str) (scope : Scope) (cl : List (Str × Addr)) (C : Addr) (s : Shared) (H : Hp) (ex : List Addr) : Cx :=
  { prog := X.prog, w := X.w, K := X.K, mg := X.mg, base := X.base, A := X.A, N := N', s₀ := s, H₀ := H, env := compEnvC scope cl C X.env, outer := X.stack, stack := X.stack, ex := ex, fn := fun _ => false, calm := X.calm, pn := [], xe := fun _ _ => False }
def PIfs (X : Cx) (ifs : List Expr) (t : TT) : Prop :=
  ∀ (pins : List (Addr × Obj)) (s : Shared) (σ : St) (H : Hp) (Q : Bool → Hp → Prop), Inv X pins σ H s → t σ H Q →
    wpAny (model X.prog X.w) X.A (forIn ifs true fun c r => if r = true then do let ok ← isTrue c X.env (eval c X.env); pure (ForInStep.yield ok) else pure (ForInStep.yield r)) (TP X pins σ Q) X.xe s
def tYes : TT := fun _ H Q => Q true H
theorem pifs_nil {X : Cx} : PIfs X [] tYes := fun pins s σ H Q I h => wpAny_tests_nil ⟨H, I, h⟩
theorem pifs_one {X : Cx} {c : Expr} {t : TT} (h : PT X c t) : PIfs X [c] t := fun pins s σ H Q I q => wpAny_tests_one (h pins s σ H Q I q)
def blkσ (own : Nat) (fr : List Nat) (σ : St) : St := List.replicate own none ++ fr.map fun j => (σ[j]?).join
def tComp (own : Nat) (fr : List Nat) (wi : TI) (g : TG) (tt : TT) (te : TE) : TE := fun σ H Q => wi σ H fun J H1 => ∀ l, H1 l = none →
  ∃ W : Nat → Nat → List V → St → Hp → Prop, (∃ m, W 0 m [] (blkσ own fr σ) (upd H1 l (.lst []))) ∧ ∀ i m ys σ H, W i m ys σ H →
    (J.stop i H ∧ Q (.ref l) H) ∨ (J.go i H ∧ ∀ x H', J.yld i H x H' → g x σ H' fun σ2 H2 => tt σ2 H2 fun b H3 =>
      if b = true then te σ2 H3 fun v H4 => H4 l = some (.lst ys) ∧ ys.length < sizeLine ∧ ∃ m', m' < m ∧ W (i + 1) m' (ys ++ [v]) σ2 (upd H4 l (.lst (ys ++ [v])))
      else ∃ m', m' < m ∧ W (i + 1) m' ys σ2 H3)
structure BlkScope (N : List Str) (sc : Scope) (N' : List Str) (own : Nat) (fr : List Nat) (scope : Scope) : Prop where
  kind : scope.kind = .function
  nocell : ∀ y ∈ scope.names, y.2 ≠ .cell
  names : ∀ y ∈ scope.names, y.2 = .local → scope.names.lookup y.1 = some .local
  len : N'.length = own + fr.length
  free : ∀ y ∈ scope.names, y.2 = .free → sc.names.lookup y.1 = some .cell ∨ sc.names.lookup y.1 = some .free
  apart : ∀ y ∈ scope.names, y.2 = .free → scope.names.lookup y.1 ≠ some .local
  ixs : ∀ k ∈ List.range fr.length, N'[own + k]? = N[fr[k]?.getD 0]? ∧ (N'[own + k]?.getD "", NameKind.free) ∈ scope.names
theorem BlkScope.ix {N : List Str} {sc : Scope} {N' : List Str} {own : Nat} {fr : List Nat} {scope : Scope} (B : BlkScope N sc N' own fr scope) (k j : Nat) (h : fr[k]? = some j) : ∃ x, N'[own + k]? = some x ∧ N[j]? = some x ∧ (x, NameKind.free) ∈ scope.names := by
  have hk : k < fr.length := (List.getElem?_eq_some_iff.mp h).1
  obtain ⟨e1, e2⟩ := B.ixs k (List.mem_range.mpr hk)
  have hlt : own + k < N'.length := by rw [B.len]; omega
  have e3 : N'[own + k]? = some N'[own + k] := List.getElem?_eq_getElem hlt
  rw [h] at e1
  rw [e3] at e1 e2
  exact ⟨_, e3, e1.symm, e2⟩
theorem relabel_lookup {env : Env} {x : Str} {k : NameKind} : ∀ {names : List (Str × NameKind)},
    (names.map fun (n, k) => if (k == NameKind.free && env.scope.kind == .function && env.kindOf n == some .cell) then (n, NameKind.cell) else (n, k)).lookup x = some k → ∃ k', (x, k') ∈ names ∧ (k = k' ∨ (k = .cell ∧ k' = .free))
  | [], h => by cases h
  | (n, k0) :: r, h => by
    rw [List.map_cons] at h
    by_cases hc : (k0 == NameKind.free && env.scope.kind == .function && env.kindOf n == some .cell) = true
    · simp only [hc, if_true, List.lookup_cons] at h
      cases hx : x == n with
      | true =>
        have hx' : x = n := by simpa using hx
        subst hx'
        simp only [hx] at h
        cases h
        have : k0 = .free := by
          simp only [Bool.and_eq_true, beq_iff_eq] at hc
          exact hc.1.1
        exact ⟨k0, List.mem_cons_self, .inr ⟨rfl, this⟩⟩
      | false =>
        simp only [hx] at h
        obtain ⟨k', m, q⟩ := relabel_lookup h
        exact ⟨k', List.mem_cons_of_mem _ m, q⟩
    · have hc' : (k0 == NameKind.free && env.scope.kind == .function && env.kindOf n == some .cell) = false := by simpa using hc
      simp only [hc', Bool.false_eq_true, if_false, List.lookup_cons] at h
      cases hx : x == n with
      | true =>
        have hx' : x = n := by simpa using hx
        subst hx'
        simp only [hx] at h
        cases h
        exact ⟨_, List.mem_cons_self, .inl rfl⟩
      | false =>
        simp only [hx] at h
        obtain ⟨k', m, q⟩ := relabel_lookup h
        exact ⟨k', List.mem_cons_of_mem _ m, q⟩
section
variable {X : Cx} {tg : Expr}
theorem comp_run {elt iter : Expr} {ifs : List Expr} {scope : Scope} {pos : Pos} {N' : List Str} {own : Nat} {fr : List Nat} {wi : TI} {g : TG} {tt : TT} {te : TE} (hc : X.calm = true) (B : BlkScope X.N X.env.scope N' own fr scope) (hi : PI X tg iter wi)
    (hg : ∀ cl C s H ex, PG (blk X N' scope cl C s H ex) tg g) (ht : ∀ cl C s H ex, PIfs (blk X N' scope cl C s H ex) ifs tt) (he : ∀ cl C s H ex, PE (blk X N' scope cl C s H ex) elt te)
    {pins : List (Addr × Obj)} {s : Shared} {σ : St} {H : Hp} {Q : VK} {use : Option (Value → Sem Unit)} {QQ : Value → Shared → Prop} (I : Inv X pins σ H s) (h : tComp own fr wi g tt te σ H Q)
    (fin : ∀ l C H' s', Inv X pins σ H' s' → Q (.ref l) H' → (∃ m, s'.heap.Ns C m) → FpOk X pins H' C → compPost (model X.prog X.w) X.A X.xe use QQ (.ref l) C (.ok .next) s')
    (hs : ∀ x, foldedSetIterable iter X.env x = pure x) :
    wpAny (model X.prog X.w) X.A (comprehension (.ListComp elt [⟨tg, iter, ifs, 0⟩] scope pos) scope X.env (firstIterPos [⟨tg, iter, ifs, 0⟩] pos) (newList []) false (eval iter X.env) use) QQ X.xe s := by
  obtain ⟨cl, ecl, cl1, cl2⟩ := closureFor_is (scope := scope) (env := X.env) fun x hx hf => I.ok.has x.1 (B.free x hx hf)
  refine wpAny_comprehension_free rfl hs ecl B.kind B.names (thn (hi pins s σ H _ I h) fun v s1 h1 => thn h1 fun itv s2 h2 => ?_)
  obtain ⟨it, fp, tn, J, H2, e, I2, T, st2, f2, hq⟩ := h2
  subst e
  refine wpAny_newObj_type (wpAny_newFunctionEnv B.nocell (by intro y hy; simp at hy) (fun h₁ hns₁ hsb₁ => ?_) B.kind)
  dsimp only at hns₁ hsb₁ ⊢
  have I3 := I2.lnew (its := []) (ys := []) (t' := s2.toks) .nil (Nat.zero_le _)
  obtain ⟨W, ⟨m0, w0⟩, turn⟩ := hq s2.heap.objs.size I2.fresh
  have e3 : ({ s2 with heap := s2.heap.push { cls := .type "list", data := .seq ([] : List Value).toArray }, toks := s2.toks } : Shared) = { s2 with heap := s2.heap.push { cls := .type "list", data := .seq ([] : List Value).toArray } } := rfl
  rw [e3] at I3
  generalize hs3 : ({ s2 with heap := s2.heap.push { cls := .type "list", data := .seq ([] : List Value).toArray } } : Shared) = s3 at I3
  have hh3 : s3.heap = s2.heap.push { cls := .type "list", data := .seq ([] : List Value).toArray } := by rw [← hs3]
  have hs1 : s2.heap.objs.size < s3.heap.objs.size := by rw [hh3, Heap.size_push]; exact Nat.lt_succ_self _
  generalize hl : s2.heap.objs.size = l at *
  generalize hC : (s2.heap.push { cls := .type "list", dict := none, data := .seq ([] : List Value).toArray }).objs.size = C at *
  have hC3 : s3.heap.objs.size = C := by rw [hh3]; exact hC
  have fpl : ∀ b ∈ fp, b < l := fun b hb => by
    obtain ⟨o, e, _⟩ := T.obj _ _ st2 b hb
    rw [← hl]; exact Heap.lt_size e
  have hlC : l < C := by rw [← hC3]; exact hs1
  have f3 : ∀ b ∈ fp, FpOk X pins (upd H2 l (.lst [])) b := fun b hb => ⟨by rw [upd_ne (Nat.ne_of_lt (fpl b hb))]; exact (f2 b hb).1, (f2 b hb).2⟩
  have okB : (blk X N' scope cl C s3 (upd H2 l (.lst [])) fp).Ok := by
    refine ⟨I3.ok.mod, B.kind, I3.ok.glob, I3.ok.blt, Nat.le_of_eq hC3, fun x y c h1 h2 => I3.ok.inj x y c (cl1 x c h1) (cl1 y c h2), fun x hx => ?_, fun x c z => absurd z Bool.false_ne_true, I3.ok.hd, I3.ok.frames, .inl rfl, fun b hb => ⟨?_, fun x c e => (f3 b hb).2.2.2.2.1 x c (cl1 x c e)⟩, fun b o e => I3.bs b o e, Nat.le_trans I3.ok.bsz I3.sz, fun b o e hb => ?_, fun b hb z => ?_, I3.stack, I3.stkFree⟩
    · have : ∃ k, (relabel scope X.env).names.lookup x = some k ∧ (k = .cell ∨ k = .free) := by
        rcases hx with hx | hx
        · exact ⟨_, hx, .inl rfl⟩
        · exact ⟨_, hx, .inr rfl⟩
      obtain ⟨k, hk, hkk⟩ := this
      obtain ⟨k', hm, hk'⟩ := relabel_lookup hk
      have hfr : k' = .free := by
        rcases hk' with rfl | ⟨_, z⟩
        · rcases hkk with rfl | rfl
          · exact absurd rfl (B.nocell _ hm)
          · rfl
        · exact z
      subst hfr
      exact cl2 (x, .free) hm rfl
    · exact Nat.ne_of_lt (Nat.lt_trans (fpl b hb) hlC)
    · rcases (f3 b hb).2.2.2.1 with z | z
      · exact I3.ok.noex b o e z
      · exact absurd (Nat.lt_of_lt_of_le (Heap.lt_size e) (Nat.le_trans I3.ok.bsz z)) (Nat.lt_irrefl _)
    · rcases List.mem_cons.mp (I3.stkSub b z) with q | q
      · exact (f3 b hb).2.1 q
      · exact (f3 b hb).2.2.1 q
  have old : ∀ b o, s3.heap.get? b = some o → h₁.get? b = some o := fun b o e => hsb₁.extBut b o (Nat.ne_of_lt (by rw [← hC3]; exact Heap.lt_size e)) (Heap.get?_push_of_some _ (by rw [hh3] at e; exact e))
  have I4 : Inv (blk X N' scope cl C s3 (upd H2 l (.lst [])) fp) [] (blkσ own fr σ) (upd H2 l (.lst [])) { s3 with heap := h₁ } := by
    refine ⟨okB, rfl, I3.bare, Un.kept old, ⟨_, hns₁, fun i x v h1 h2 h3 => ?_⟩, fun x c e => ?_, I3.hok.fresh (Nat.le_of_eq hC3), fun x c e => I3.freeC x c (cl1 x c e), (fun p hp => absurd hp (List.not_mem_nil)), I3.hok.kept old, ?_⟩
    · unfold blkσ at h2
      by_cases hio : i < own
      · rw [List.getElem?_append_left (by simpa using hio), List.getElem?_replicate, if_pos hio] at h2
        cases h2
      · rw [List.getElem?_append_right (by simpa using hio), List.length_replicate, List.getElem?_map] at h2
        cases hj : fr[i - own]? with
        | none => rw [hj] at h2; cases h2
        | some j =>
          rw [hj] at h2
          have h2' : (σ[j]?).join = some v := Option.some.inj h2
          obtain ⟨x', n1, n2, n3⟩ := B.ix _ _ hj
          have hio' : own + (i - own) = i := by omega
          rw [hio'] at n1
          have n1' : N'[i]? = some x := h1
          rw [n1'] at n1
          cases n1
          have hσ : σ[j]? = some (some v) := by
            cases q : σ[j]? with
            | none => rw [q] at h2'; cases h2'
            | some o => rw [q] at h2'; cases o with
              | none => cases h2'
              | some v' => cases h2'; rfl
          have hvis := B.free _ n3 rfl
          obtain ⟨m', hn', hl'⟩ := I3.loc
          obtain ⟨u, ru, lk⟩ := hl' j x v n2 hσ (.inr hvis)
          refine ⟨u, ru, ?_⟩
          obtain ⟨c, hc⟩ := cl2 _ n3 rfl
          rcases lk with ⟨k1, _⟩ | ⟨_, c', hc', hcell⟩
          · have k1' : X.env.scope.names.lookup x = some .local := k1
            rcases hvis with z | z <;> (rw [k1'] at z; cases z)
          · have : c' = c := Option.some.inj (hc'.symm.trans (cl1 x c hc))
            subst this
            have hkind : ∃ k, (relabel scope X.env).names.lookup x = some k := by
              rcases h3 with z | z | z
              · exact ⟨_, z⟩
              · exact ⟨_, z⟩
              · exact ⟨_, z⟩
            refine .inr ⟨?_, c', hc, ?_⟩
            · rcases h3 with z | z | z
              · exfalso
                obtain ⟨k', hm, hk'⟩ := relabel_lookup z
                have : k' = .local := by
                  rcases hk' with q | ⟨q, _⟩
                  · exact q.symm
                  · cases q
                subst this
                have q1 := B.names _ hm rfl
                exact B.apart _ n3 rfl q1
              · exact .inl z
              · exact .inr z
            · obtain ⟨o, ho, hd⟩ := hcell
              exact ⟨o, old _ o ho, hd⟩
    · obtain ⟨v, o, ho, hd⟩ := I3.cell x c (cl1 x c e)
      exact ⟨v, o, old _ o ho, hd⟩
    · unfold blkσ
      show _ = N'.length
      rw [List.length_append, List.length_replicate, List.length_map, B.len]
  have st4 : tn 0 h₁ := T.keep _ _ _ st2 fun b hb o e => old b o (by rw [hh3]; exact Heap.get?_push_of_some _ e)
  have stat : ∀ {H' : Hp}, (∀ b ∈ fp, H' b = none) → ∀ b ∈ fp, FpOk (blk X N' scope cl C s3 (upd H2 l (.lst [])) fp) [] H' b := fun hn b hb =>
    ⟨hn b hb, (okB.exf b hb).1, okB.exfs b hb, .inl hb, (okB.exf b hb).2, (fun p hp => absurd hp (List.not_mem_nil))⟩
  have loop : codeAny (model X.prog X.w) X.A (.compLoop (.ListComp elt [⟨tg, iter, ifs, 0⟩] scope pos) 0 (.ref it) (.ref l) (compEnvC scope cl C X.env)) (compPost (model X.prog X.w) X.A X.xe use QQ (.ref l) C) { s3 with heap := h₁ } := by
    refine loop_turns (fun n s' => ∃ i ys σ' H', Inv (blk X N' scope cl C s3 (upd H2 l (.lst [])) fp) [] σ' H' s' ∧ tn i s'.heap ∧ (∀ b ∈ fp, H' b = none) ∧ W i n ys σ' H') ?_ m0 ⟨0, [], _, _, I4, st4, fun b hb => (f3 b hb).1, w0⟩
    rintro n s5 ⟨i, ys, σ5, H5, I5, st5, fr5, w5⟩
    rcases turn i n ys σ5 H5 w5 with ⟨stop, q⟩ | ⟨go, step⟩
    · refine thn (T.done (blk X N' scope cl C s3 (upd H2 l (.lst [])) fp) rfl rfl rfl hc i [] s5 σ5 H5 _ I5 (stat fr5) st5 stop) fun r s6 ⟨hr, I6⟩ => ?_
      subst hr
      have IX : Inv X pins σ H5 s6 := I3.call' (ch := fp) I6.os I6.base I6.hok I6.bare fun b hb => ⟨(f3 b hb).2.2.2.1, (f3 b hb).2.1, (f3 b hb).2.2.2.2.1, (f3 b hb).2.2.2.2.2⟩
      obtain ⟨m, hn, _⟩ := I6.loc
      exact fin l C H5 s6 IX q ⟨m, hn⟩ (I3.fpOk (Nat.le_of_eq hC3) I6.free)
    · refine thn (T.item (blk X N' scope cl C s3 (upd H2 l (.lst [])) fp) rfl rfl rfl hc i [] s5 σ5 H5 _ I5 (stat fr5) st5 go) fun r s6 ⟨u, hr, h6⟩ => ?_
      subst hr
      refine thn h6 fun _ s7 ⟨x, H7, I7, r7, y7, st7, fr7⟩ => ?_
      have I7' := I7.pinned (stat fr7) (T.obj _ _ st7)
      have keep : ∀ {σ8 : St} {H8 : Hp} {s8 : Shared}, Inv (blk X N' scope cl C s3 (upd H2 l (.lst [])) fp) ([] ++ pinsAt fp s7.heap) σ8 H8 s8 → tn (i + 1) s8.heap ∧ ∀ b ∈ fp, H8 b = none := fun {σ8 H8 s8} I8 => by
        refine ⟨T.keep _ _ _ st7 fun b hb o e => (I8.pin (b, o) (List.mem_append_right _ (List.mem_append_right _ (mem_pinsAt hb e)))).1, fun b hb => ?_⟩
        obtain ⟨o, e, d⟩ := T.obj _ _ st7 b hb
        exact (I8.pin (b, o) (List.mem_append_right _ (List.mem_append_right _ (mem_pinsAt hb e)))).2.1
      refine thn (hg cl C s3 (upd H2 l (.lst [])) fp _ s7 σ5 H7 x u _ I7' r7 (step x H7 y7)) fun _ s8 ⟨σ8, H8, I8, q8⟩ => ?_
      refine thn (ht cl C s3 (upd H2 l (.lst [])) fp _ s8 σ8 H8 _ I8 q8) fun ok s9 ⟨H9, I9, q9⟩ => ?_
      cases ok with
      | false =>
        rw [if_neg (by decide)] at q9 ⊢
        obtain ⟨m', hm, w9⟩ := q9
        exact ⟨m', hm, i + 1, ys, σ8, H9, I9.unpinned, (keep I9).1, (keep I9).2, w9⟩
      | true =>
        rw [if_pos rfl] at q9 ⊢
        refine thn (he cl C s3 (upd H2 l (.lst [])) fp _ s9 σ8 H9 _ I9 q9) fun y sA ⟨v, HA, IA, rA, hA, hz, m', hm, wA⟩ => ?_
        refine thn (mt_append (X := blk X N' scope cl C s3 (upd H2 l (.lst [])) fp) _ sA σ8 HA (.ref l) [v] (.ref l) [y] (fun z H' => z = .non ∧ H' = upd HA l (.lst (ys ++ [v]))) IA rfl (.cons rA .nil) ⟨l, ys, v, rfl, rfl, hA, hz, rfl, rfl⟩) fun _ sB ⟨_, HB, IB, _, _, eB⟩ => ?_
        subst eB
        exact ⟨m', hm, i + 1, ys ++ [v], σ8, _, IB.unpinned, (keep IB).1, (keep IB).2, wA⟩
  have e4 : ({ s3 with heap := h₁ } : Shared) = { s2 with heap := h₁, toks := s2.toks + ([] : List (Str × Value)).length } := by rw [← hs3]; rfl
  rw [e4] at loop
  exact codeAny_compStart_list loop (T.self _ 0 _ _ _ (by exact st4) loop)
theorem pe_comp {elt iter : Expr} {ifs : List Expr} {scope : Scope} {pos : Pos} {N' : List Str} {own : Nat} {fr : List Nat} {wi : TI} {g : TG} {tt : TT} {te : TE} (hc : X.calm = true) (B : BlkScope X.N X.env.scope N' own fr scope) (hi : PI X tg iter wi)
    (hg : ∀ cl C s H ex, PG (blk X N' scope cl C s H ex) tg g) (ht : ∀ cl C s H ex, PIfs (blk X N' scope cl C s H ex) ifs tt) (he : ∀ cl C s H ex, PE (blk X N' scope cl C s H ex) elt te)
    (hs : ∀ x, foldedSetIterable iter X.env x = pure x := by intro _; rfl) : PE X (.ListComp elt [⟨tg, iter, ifs, 0⟩] scope pos) (tComp own fr wi g tt te) := by
  intro pins s σ H Q I h
  rw [eval_ListComp]
  refine comp_run hc B hi hg ht he I h (use := none) (fun l C H' s' I' q ⟨m, hn⟩ f => ?_) hs
  refine ⟨m, hn, fun h' hsb => ⟨.ref l, H', ?_, rfl, q⟩⟩
  exact I'.turned (t' := s'.toks) (fun b o hb e => (hsb.2 b hb).trans e) f.1 f.2.1 f.2.2.2.1 f.2.2.2.2.1 f.2.2.2.2.2
theorem ps_setC {i : Nat} {x : Str} {px spos : Pos} {elt iter : Expr} {ifs : List Expr} {scope : Scope} {pos : Pos} {N' : List Str} {own : Nat} {fr : List Nat} {wi : TI} {g : TG} {tt : TT} {te : TE} (hN : X.N.Nodup) (hix : X.N[i]? = some x) (hx : X.env.scope.names.lookup x = some .local) (hc : X.calm = true) (B : BlkScope X.N X.env.scope N' own fr scope) (hi : PI X tg iter wi)
    (hg : ∀ cl C s H ex, PG (blk X N' scope cl C s H ex) tg g) (ht : ∀ cl C s H ex, PIfs (blk X N' scope cl C s H ex) ifs tt) (he : ∀ cl C s H ex, PE (blk X N' scope cl C s H ex) elt te)
    (hsw : swapsWith (.ListComp elt [⟨tg, iter, ifs, 0⟩] scope pos) (some (.Name x px)) spos.line X.env = pure true := by rfl) (hs : ∀ x, foldedSetIterable iter X.env x = pure x := by intro _; rfl) :
    PS X (.Assign [.Name x px] (.ListComp elt [⟨tg, iter, ifs, 0⟩] scope pos) spos) (tAsg (tComp own fr wi g tt te) (gName i)) := by
  intro pins s σ H D I h
  rw [exec_Assign_Name_used _ _ _ _ hsw]
  refine wpAny_bind (wpAny_standAt (wpAny_bind ?_))
  show wpAny _ _ (do let _ ← comprehension (.ListComp elt [⟨tg, iter, ifs, 0⟩] scope pos) scope X.env _ (newList []) false (eval iter X.env) (some (assign (.Name x px) X.env))) _ _ s
  refine wpAny_bind (wpAny_mono (comp_run hc B hi hg ht he I h (use := some (assign (.Name x px) X.env)) (QQ := fun _ s' => SP X pins D .next s') (fun l C H' s' I' q ⟨m, hn⟩ f => ?_) hs) (fun _ s' hq => wpAny_pure (wpAny_pure hq)) fun _ _ e => e)
  show wpAny _ _ (assign (.Name x px) X.env (.ref l)) _ _ s'
  refine wpAny_assign_Name (store_ok2 I' hN hix (.inl hx) (v := .ref l) rfl (fun s'' I'' ⟨a, hsa, ha⟩ => ?_) (.inr hx))
  have ne : C ≠ a := by
    rcases ha with rfl | ha
    · exact f.2.1
    · exact fun z => f.2.2.2.2.1 _ _ ha z.symm
  refine ⟨m, hn.sameBut hsa ne, fun h' hsb => ⟨_, H', ?_, q⟩⟩
  exact I''.turned (t' := s''.toks) (fun b o hb e => (hsb.2 b hb).trans e) f.1 f.2.1 f.2.2.2.1 f.2.2.2.2.1 f.2.2.2.2.2
end
section
variable {X : Cx} {N' : List Str} {scope : Scope} {cl : List (Str × Addr)} {C : Addr} {s : Shared} {H : Hp} {ex : List Addr}
end
theorem comp_gen {own : Nat} {fr : List Nat} {σ0 : St} {J : It} {g : TG} {tt : TT} {te : TE} {H1 : Hp} {Q : Addr → Hp → Prop} {n : Nat} (p : Nat → Bool) (f : Nat → V) (S : St → Prop) (h0 : S σ0) (hn : n ≤ sizeLine)
    (hy : ∀ i H' x H'', i < n → Same H1 H' → J.yld i H' x H'' → Same H' H'')
    (hJ : ∀ i σ H', i < n → S σ → Same H1 H' → J.go i H' ∧ ∀ x H'', J.yld i H' x H'' → ∀ (R : V → St → Hp → Prop) (R0 : St → Hp → Prop), (p i = true → ∀ σ2 H3, S σ2 → Same H'' H3 → R (f i) σ2 H3) → (p i = false → ∀ σ2 H3, S σ2 → Same H'' H3 → R0 σ2 H3) →
      g x σ H'' fun σ2 H2 => tt σ2 H2 fun b H3 => if b = true then te σ2 H3 fun v H4 => R v σ2 H4 else R0 σ2 H3)
    (hstop : ∀ H', Same H1 H' → J.stop n H')
    (hQ : ∀ l H', H1 l = none → Same H1 H' → H' l = some (.lst (((List.range n).filter p).map f)) → Q l H') :
    ∀ l, H1 l = none → ∃ W : Nat → Nat → List V → St → Hp → Prop, (∃ m, W 0 m [] σ0 (upd H1 l (.lst []))) ∧ ∀ i m ys σ H, W i m ys σ H →
    (J.stop i H ∧ Q l H) ∨ (J.go i H ∧ ∀ x H', J.yld i H x H' → g x σ H' fun σ2 H2 => tt σ2 H2 fun b H3 =>
      if b = true then te σ2 H3 fun v H4 => H4 l = some (.lst ys) ∧ ys.length < sizeLine ∧ ∃ m', m' < m ∧ W (i + 1) m' (ys ++ [v]) σ2 (upd H4 l (.lst (ys ++ [v])))
      else ∃ m', m' < m ∧ W (i + 1) m' ys σ2 H3) := by
  intro l hl
  refine ⟨fun i m ys σ H' => m = n - i ∧ i ≤ n ∧ S σ ∧ ys = ((List.range i).filter p).map f ∧ Same H1 H' ∧ H' l = some (.lst ys), ⟨n, by simp, Nat.zero_le _, h0, rfl, Same.new (Same.refl _) hl, upd_same⟩, ?_⟩
  rintro i m ys σ H' ⟨rfl, hi, hS, rfl, sm, hH⟩
  by_cases hlt : i < n
  · right
    obtain ⟨go, step⟩ := hJ i σ H' hlt hS sm
    refine ⟨go, fun x H'' y => ?_⟩
    have sy := hy i H' x H'' hlt sm y
    have hsnoc : List.range (i + 1) = List.range i ++ [i] := List.range_succ
    have hlen : (((List.range i).filter p).map f).length < sizeLine := by
      have := List.length_filter_le p (List.range i)
      rw [List.length_map]
      rw [List.length_range] at this
      omega
    refine step x H'' y (fun v σ2 H4 => H4 l = some (.lst (((List.range i).filter p).map f)) ∧ (((List.range i).filter p).map f).length < sizeLine ∧ ∃ m', m' < n - i ∧ m' = n - (i + 1) ∧ i + 1 ≤ n ∧ S σ2 ∧ (((List.range i).filter p).map f) ++ [v] = ((List.range (i + 1)).filter p).map f ∧ Same H1 (upd H4 l (.lst ((((List.range i).filter p).map f) ++ [v]))) ∧ upd H4 l (.lst ((((List.range i).filter p).map f) ++ [v])) l = some (.lst ((((List.range i).filter p).map f) ++ [v])))
      (fun σ2 H3 => ∃ m', m' < n - i ∧ m' = n - (i + 1) ∧ i + 1 ≤ n ∧ S σ2 ∧ (((List.range i).filter p).map f) = ((List.range (i + 1)).filter p).map f ∧ Same H1 H3 ∧ H3 l = some (.lst (((List.range i).filter p).map f))) ?_ ?_
    · intro hp σ2 H3 hS2 s3
      refine ⟨s3 _ _ (sy _ _ hH), hlen, n - (i + 1), by omega, rfl, hlt, hS2, ?_, ?_, upd_same⟩
      · rw [hsnoc, List.filter_append]
        simp [hp]
      · intro b u e
        have ne : b ≠ l := fun z => by rw [z, hl] at e; cases e
        rw [upd_ne ne]
        exact s3 _ _ (sy _ _ (sm _ _ e))
    · intro hp σ2 H3 hS2 s3
      refine ⟨n - (i + 1), by omega, rfl, hlt, hS2, ?_, fun b u e => s3 _ _ (sy _ _ (sm _ _ e)), s3 _ _ (sy _ _ hH)⟩
      rw [hsnoc, List.filter_append]
      simp [hp]
  · obtain rfl : i = n := by omega
    exact .inl ⟨hstop H' sm, hQ l H' hl sm hH⟩
end L2
local macro_rules | `(tactic| tm_at "blk_is") => `(tactic| exact ⟨by decide +kernel, by decide +kernel, by decide +kernel, by decide +kernel, by decide +kernel, by decide +kernel, by decide +kernel⟩)
set_option Elab.async false
set_option linter.all false
set_option maxRecDepth 100000
set_option maxHeartbeats 4000000
namespace L2
open PySem PySem.Spec PyProof.Rows
theorem intsAre_of_vals : ∀ {ns : List Int} {us : List Value}, Vals (ns.map V.int) us → IntsAre us ns
  | [], us, h => by cases h; exact .nil
  | n :: ns, us, h => by
    cases h with
    | cons r rs =>
      obtain ⟨t, rfl⟩ := r
      exact .cons n t (intsAre_of_vals rs)
section
variable {X : Cx}
end
def maxD (d : Int) (ns : List Int) : Int := match ns with
  | [] => d
  | n :: r => r.foldl (fun a b => if b > a then b else a) n
section
variable {prog : Program} {w : World} {A : Around} {R : Result → Shared → Prop} {I : Addr} {fp wr : List Addr} {n : Nat} {P : Nat → Value → Prop} {St : Nat → Heap → Prop}
end
section
variable {prog : Program} {w : World} {A : Around} {E : Value → Shared → Prop} {s : Shared}
end
section
variable {X : Cx}
def tMaxD (te td : TE) (K : PySem.W.Frag) : TE := fun σ H Q => te σ H fun x H1 => td σ H1 fun y H2 => ∃ (a : Addr) (ns : List Int) (d : Int), x = .ref a ∧ y = .int d ∧ SqL K H2 a (ns.map V.int) ∧ ∀ M, ((ns = [] ∧ M = d) ∨ (M ∈ ns ∧ ∀ n ∈ ns, n ≤ M)) → Q (.int M) H2
end
end L2
set_option Elab.async false
set_option linter.all false
set_option maxRecDepth 100000
set_option maxHeartbeats 4000000
namespace L2
open PySem PySem.Spec PyProof.Rows
section
variable {X : Cx} {pins : List (Addr × Obj)} {σ : St} {H : Hp} {s : Shared} {h' : Heap} {fp : List Addr}
end
def Ite (K : PySem.W.Frag) (a : Addr) : It :=
  ⟨fun i H => ∃ xs x, SqL K H a xs ∧ xs[i]? = some x, fun i H v H' => ∃ t x, H t = none ∧ v = .ref t ∧ H' = upd H t (.tup [.int i, x]) ∧ ∀ xs, SqL K H a xs → xs[i]? = some x, fun i H => ∃ xs, SqL K H a xs ∧ xs.length ≤ i⟩
section
variable {X : Cx} {elts : List Expr} {x1 : ExprContext} {tp : Pos}
end
section
variable {X : Cx}
def iEnum (K : PySem.W.Frag) (ta : TA) : TI := fun σ H R => ta σ H fun vs H1 => ∃ a xs, vs = [.ref a] ∧ H1 a = some (.lst xs) ∧ R (Ite K a) H1
end
def Itz (K : PySem.W.Frag) (a b : Addr) : It :=
  ⟨fun i H => ∃ xs x ys y, SqL K H a xs ∧ xs[i]? = some x ∧ SqL K H b ys ∧ ys[i]? = some y, fun i H v H' => ∃ t x y, H t = none ∧ v = .ref t ∧ H' = upd H t (.tup [x, y]) ∧ (∀ xs, SqL K H a xs → xs[i]? = some x) ∧ ∀ ys, SqL K H b ys → ys[i]? = some y,
    fun i H => ∃ xs ys, SqL K H a xs ∧ SqL K H b ys ∧ (xs.length ≤ i ∨ ys.length ≤ i)⟩
section
variable {X : Cx}
def iZip (K : PySem.W.Frag) (ta : TA) : TI := fun σ H R => ta σ H fun vs H1 => ∃ a b xs ys, vs = [.ref a, .ref b] ∧ SqL K H1 a xs ∧ SqL K H1 b ys ∧ R (Itz K a b) H1
end
end L2
set_option Elab.async false
set_option linter.all false
set_option maxRecDepth 100000
set_option maxHeartbeats 4000000
namespace L2
open PySem PySem.Spec PyProof.Rows
def eqVs : List V → List V → Bool
  | [], [] => true
  | x :: xs, y :: ys => eqV x y && eqVs xs ys
  | _, _ => false
theorem eqVs_len : ∀ {xs ys : List V}, eqVs xs ys = true → xs.length = ys.length
  | [], [], _ => rfl
  | _ :: xs, _ :: ys, h => by
    have h' : (_ && eqVs xs ys) = true := h
    rw [Bool.and_eq_true] at h'
    rw [List.length_cons, List.length_cons, eqVs_len h'.2]
  | [], _ :: _, h => by cases h
  | _ :: _, [], h => by cases h
theorem eqVs_range : ∀ {xs ys : List V}, xs.length = ys.length → (List.range xs.length).all (fun j => eqV (xs.getD j .non) (ys.getD j .non)) = eqVs xs ys
  | [], [], _ => rfl
  | x :: xs, y :: ys, h => by
    have hl : xs.length = ys.length := by simpa using h
    rw [List.length_cons, List.range_succ_eq_map, List.all_cons, List.all_map]
    have : (List.range xs.length).all ((fun j => eqV ((x :: xs).getD j .non) ((y :: ys).getD j .non)) ∘ Nat.succ) = eqVs xs ys := by
      rw [← eqVs_range hl]
      rfl
    rw [this]
    rfl
  | [], _ :: _, h => by simp at h
  | _ :: _, [], h => by simp at h
theorem eqVs_ne {xs ys : List V} (h : xs.length ≠ ys.length) : eqVs xs ys = false := by
  cases e : eqVs xs ys with
  | false => rfl
  | true => exact absurd (eqVs_len e) h
theorem vals_eqAt {A : Around} {s : Shared} {xs ys : List V} {us vs : List Value} (r : Vals xs us) (q : Vals ys vs) (fx : xs.all flatV = true) (fy : ys.all flatV = true) (j : Nat) (h1 : j < us.toArray.size) (h2 : j < vs.toArray.size) :
    SeqAt.EqAt A s us.toArray[j] vs.toArray[j] (eqV (xs.getD j .non) (ys.getD j .non)) := by
  have l1 := r.length
  have l2 := q.length
  have h1' : j < us.length := by simpa using h1
  have h2' : j < vs.length := by simpa using h2
  obtain ⟨u, hu, ru⟩ := r.get (i := j) (x := xs[j]) (by simp [show j < xs.length by omega])
  obtain ⟨v, hv, rv⟩ := q.get (i := j) (x := ys[j]) (by simp [show j < ys.length by omega])
  have e1 : us.toArray[j] = u := by
    have : us[j]? = some us[j] := List.getElem?_eq_getElem h1'
    rw [this] at hu
    simpa using hu
  have e2 : vs.toArray[j] = v := by
    have : vs[j]? = some vs[j] := List.getElem?_eq_getElem h2'
    rw [this] at hv
    simpa using hv
  have g1 : xs.getD j .non = xs[j] := by simp [List.getD, show j < xs.length by omega]
  have g2 : ys.getD j .non = ys[j] := by simp [List.getD, show j < ys.length by omega]
  rw [e1, e2, g1, g2]
  exact eqAt_V ru rv (List.all_eq_true.mp fx _ (List.getElem_mem _)) (List.all_eq_true.mp fy _ (List.getElem_mem _))
section
variable {X : Cx}
def rEqL (K : PySem.W.Frag) : R2 := fun x y H Q => ∃ a b xs ys, x = .ref a ∧ y = .ref b ∧ SqL K H a xs ∧ SqL K H b ys ∧ xs.all flatV = true ∧ ys.all flatV = true ∧ Q (.bl (eqVs xs ys)) H
def rNeL (K : PySem.W.Frag) : R2 := fun x y H Q => ∃ a b xs ys, x = .ref a ∧ y = .ref b ∧ SqL K H a xs ∧ SqL K H b ys ∧ xs.all flatV = true ∧ ys.all flatV = true ∧ Q (.bl (!eqVs xs ys)) H
theorem op_eqL (hu : X.A.units < cLine) : OpR X (compareOp .Eq) (rEqL X.K) := by
  intro pins s σ H x y v u Q I rx ry h
  obtain ⟨a, b, xs, ys, rfl, rfl, hx, hy, fx, fy, q⟩ := h
  cases rx
  cases ry
  obtain ⟨its, r, pl, hz⟩ := I.list hx
  obtain ⟨jts, r2, pl2, hz2⟩ := I.list hy
  have l1 := r.length
  have l2 := r2.length
  by_cases hl : xs.length = ys.length
  · refine SeqAt.eq_listAt (e := fun j => eqV (xs.getD j .non) (ys.getD j .non)) pl.isList pl2.isList (by simp; omega) hu (fun j h1 h2 => vals_eqAt r r2 fx fy j h1 h2) ⟨.bl _, H, I, ?_, q⟩
    show Value.bool _ = Value.bool _
    rw [List.size_toArray, ← l1, eqVs_range hl]
  · refine SeqAt.eq_list_lengthsAt pl.isList pl2.isList (by simp; omega) hu ⟨.bl _, H, I, ?_, q⟩
    show Value.bool _ = Value.bool _
    rw [eqVs_ne hl]
theorem op_neL (hu : X.A.units < cLine) : OpR X (compareOp .NotEq) (rNeL X.K) := by
  intro pins s σ H x y v u Q I rx ry h
  obtain ⟨a, b, xs, ys, rfl, rfl, hx, hy, fx, fy, q⟩ := h
  cases rx
  cases ry
  obtain ⟨its, r, pl, hz⟩ := I.list hx
  obtain ⟨jts, r2, pl2, hz2⟩ := I.list hy
  have l1 := r.length
  have l2 := r2.length
  by_cases hl : xs.length = ys.length
  · refine SeqAt.RcNeAt.lists (e := fun j => eqV (xs.getD j .non) (ys.getD j .non)) pl.isList pl2.isList (by simp; omega) hu (fun j h1 h2 => vals_eqAt r r2 fx fy j h1 h2) _ _ _ _ ⟨.bl _, H, I, ?_, q⟩
    show Value.bool _ = Value.bool _
    rw [List.size_toArray, ← l1, eqVs_range hl]
  · refine SeqAt.RcNeAt.lists_lengths pl.isList pl2.isList (by simp; omega) hu _ _ _ _ ⟨.bl _, H, I, ?_, q⟩
    show Value.bool _ = Value.bool _
    rw [eqVs_ne hl]
    rfl
def rEqT (K : PySem.W.Frag) : R2 := fun x y H Q => ∃ a b xs ys, x = .ref a ∧ y = .ref b ∧ SqT K H a xs ∧ SqT K H b ys ∧ xs.length = ys.length ∧ xs.all flatV = true ∧ ys.all flatV = true ∧ Q (.bl (eqVs xs ys)) H
end
end L2
set_option Elab.async false
set_option linter.all false
set_option maxRecDepth 100000
set_option maxHeartbeats 1000000
namespace L2
open PySem PySem.Spec PyProof.Rows
theorem countP_eqU {x : V} : ∀ {xs : List V} {us : List Value}, Vals xs us → xs.all flatV = true → us.countP (eqU x) = xs.countP fun y => eqV y x
  | _, _, .nil, _ => rfl
  | y :: xs, u :: us, .cons r t, f => by
    rw [List.all_cons, Bool.and_eq_true] at f
    rw [List.countP_cons, List.countP_cons, eqU_of r f.1, countP_eqU t f.2]
section
variable {X : Cx}
theorem mt_count : MtM X "list.count" (fun x vs H Q => ∃ l xs y, x = .ref l ∧ vs = [y] ∧ SqL X.K H l xs ∧ xs.all flatV = true ∧ flatV y = true ∧ Q (.int ((xs.countP fun z => eqV z y : Nat) : Int)) H) := by
  intro pins s σ H x vs v us Q I rx rv h
  obtain ⟨l, xs, y, rfl, rfl, hx, fx, fy, q⟩ := h
  cases rx
  obtain ⟨u, rfl, ru⟩ := rv.one
  obtain ⟨its, r, p, hz⟩ := I.list hx
  obtain ⟨⟨cls, dd, data, sl⟩, ho, hc, n, hd⟩ := p.isList
  simp only at hc hd
  subst hc hd
  refine call_meets F.slot_list_count ⟨_, ho, rfl⟩ F.entry_list_count (F.args_list_count_2 _ _) (SeqAt.list_countAt l its.toArray n dd sl u (eqU y)) ⟨ho, fun w hw => mem_eqAt ru fy r fx w (by simpa using hw), ?_⟩
  refine ⟨.int _, H, I.tok _, ⟨s.toks, ?_⟩, q⟩
  rw [countP_eqU r fx]
theorem mt_index : MtM X "list.index" (fun x vs H Q => ∃ (l : Addr) (xs : List V) (y : V) (j : Nat), x = .ref l ∧ vs = [y] ∧ SqL X.K H l xs ∧ xs.all flatV = true ∧ flatV y = true ∧ (∃ z, xs[j]? = some z ∧ eqV z y = true) ∧ (∀ m z, m < j → xs[m]? = some z → eqV z y = false) ∧ Q (.int (j : Int)) H) := by
  intro pins s σ H x vs v us Q I rx rv h
  obtain ⟨l, xs, y, j, rfl, rfl, hx, fx, fy, ⟨z, hj, hz1⟩, hno, q⟩ := h
  cases rx
  obtain ⟨u, rfl, ru⟩ := rv.one
  obtain ⟨its, r, p, hz⟩ := I.list hx
  obtain ⟨⟨cls, dd, data, sl⟩, ho, hc, n, hd⟩ := p.isList
  simp only at hc hd
  subst hc hd
  have hl := r.length
  have hjx : j < xs.length := (List.getElem?_eq_some_iff.mp hj).1
  have at' : ∀ m (hm : m < xs.length), eqU y (its.toArray[m]'(by simp; omega)) = eqV xs[m] y := fun m hm => by
    obtain ⟨w', hw, rw'⟩ := r.get (i := m) (x := xs[m]) (by simp [hm])
    have e : (its.toArray[m]'(by simp; omega)) = w' := by
      have : its[m]? = some (its[m]'(by omega)) := List.getElem?_eq_getElem (by omega)
      rw [this] at hw
      simpa using hw
    rw [e]
    exact eqU_of rw' (List.all_eq_true.mp fx _ (List.getElem_mem _))
  have hsz : (j : Int) < 2 ^ 63 - 1 := by
    have : sizeLine < 2 ^ 62 := by decide
    omega
  refine call_meets F.slot_list_index ⟨_, ho, rfl⟩ F.entry_list_index (F.args_list_index_2 _ _) (SeqAt.list_indexAt l its.toArray n dd sl u (eqU y) j (by simp; omega) hsz ?_ ?_) ⟨ho, fun w hw => mem_eqAt ru fy r fx w (by simpa using hw), ?_⟩
  · rw [at' j hjx]
    have : xs[j] = z := (List.getElem?_eq_some_iff.mp hj).2
    rw [this]; exact hz1
  · intro m hm hlt
    have hm' : m < xs.length := by simp at hm; omega
    rw [at' m hm']
    exact hno m _ hlt (List.getElem?_eq_getElem hm')
  · exact ⟨.int _, H, I.tok _, ⟨s.toks, rfl⟩, q⟩
end
end L2
set_option Elab.async false
set_option linter.all false
set_option maxRecDepth 100000
set_option maxHeartbeats 1000000
namespace L2
open PySem PySem.Spec PyProof.Rows
section
variable {X : Cx}
end
end L2
set_option Elab.async false
set_option linter.all false
set_option maxRecDepth 100000
set_option maxHeartbeats 1000000
namespace L2
open PySem PySem.Spec PyProof.Rows
abbrev XE := Value → St → Hp → Prop
structure Cov (X : Cx) (pins : List (Addr × Obj)) (H : Hp) (B : Heap) : Prop where
  old : ∀ b o, X.s₀.heap.get? b = some o → b ∉ X.fs → ∃ o', B.get? b = some o'
  trk : ∀ b u, H b = some u → ∃ o, B.get? b = some o
  pin : ∀ p ∈ X.pn ++ pins, ∃ o, B.get? p.1 = some o
section
variable {X : Cx} {pins : List (Addr × Obj)} {σ : St} {H : Hp} {s : Shared} {B h' : Heap}
theorem stay_eq {B h : Heap} {b : Addr} {o o' : Obj} (st : B.StaysIn h) (e : B.get? b = some o') (q : h.get? b = some o) : o' = o := by
  have := st b o' e
  rw [q] at this
  exact (Option.some.inj this).symm
theorem Inv.flown {t' : Nat} (I : Inv X pins σ H s) (hx : X.ex = []) (C : Cov X pins H B) (st0 : B.StaysIn s.heap) (st : B.StaysIn h') (up : s.heap.UpToSlots h') : Inv X pins σ H { s with heap := h', toks := t' } := by
  have inB : ∀ b o o', B.get? b = some o' → s.heap.get? b = some o → h'.get? b = some o := fun b o o' e q => by
    have := stay_eq st0 e q
    subst this
    exact st b _ e
  have nex : ∀ b, b ∉ X.ex := fun b z => by rw [hx] at z; cases z
  have cellK : ∀ c v, s.heap.IsCell c v → h'.IsCell c v := fun c v ⟨o, ho, hd⟩ => by
    obtain ⟨sl, e⟩ := up c o ho (fun vs z => by rw [hd] at z; cases z)
    exact ⟨_, e, hd⟩
  refine ⟨I.ok, I.os, I.bare, ⟨fun b o e n hb _ => ?_, fun b o e n hb _ => ?_, fun b o e n hb => I.base.free b o e n hb, fun b o e _ => ?_, I.base.tups, I.base.frzs, I.base.tbls⟩, ?_, fun x c e => ?_, I.free, I.freeC, fun p hp => ?_, fun b u e => ?_, I.len⟩
  · obtain ⟨o', e'⟩ := C.old b o e hb
    exact inB b o o' e' (I.base.keep b o e n hb (nex b))
  · obtain ⟨sl, e1⟩ := I.base.slot b o e n hb (nex b)
    obtain ⟨_, o2, ho2, hnf⟩ := I.funs.mem hb
    rw [e1] at ho2
    cases ho2
    obtain ⟨sl', e2⟩ := up b _ e1 hnf
    exact ⟨sl', e2⟩
  · by_cases hb : b ∈ X.fs
    · obtain ⟨_, o2, ho2, hnf⟩ := I.funs.mem hb
      obtain ⟨sl', e2⟩ := up b _ ho2 hnf
      exact ⟨_, e2⟩
    · obtain ⟨o', e'⟩ := C.old b o e hb
      exact ⟨o', st b o' e'⟩
  · obtain ⟨m, hn, hl⟩ := I.loc
    refine ⟨m, up.ns hn, fun i x v e1 e2 e3 => ?_⟩
    obtain ⟨u, r, l⟩ := hl i x v e1 e2 e3
    refine ⟨u, r, ?_⟩
    rcases l with l | ⟨k, c, e, z⟩
    · exact .inl l
    · exact .inr ⟨k, c, e, cellK c _ z⟩
  · obtain ⟨v, z⟩ := I.cell x c e
    exact ⟨v, cellK c v z⟩
  · obtain ⟨e, n, ne, nf, d⟩ := I.pin p hp
    obtain ⟨o', e'⟩ := C.pin p hp
    exact ⟨inB p.1 p.2 o' e' e, n, ne, nf, d⟩
  · refine (I.hok b u e).stay (fun c v hc q => ?_) (fun _ q => q) fun _ _ q => q
    have : ∃ u', H c = some u' := by
      rcases hc with rfl | hc
      · exact ⟨u, e⟩
      · exact ⟨_, hc⟩
    obtain ⟨u', e'⟩ := this
    obtain ⟨o', eb⟩ := C.trk c u' e'
    exact inB c v o' eb q
end
def XAt (X : Cx) (pins : List (Addr × Obj)) (E : XE) (e : Value) (s : Shared) : Prop :=
  ∃ (a : Addr) (cls a0 : Value) (σ : St) (H : Hp) (B : Heap), e = .ref a ∧ Inv X pins σ H s ∧ Heap.HeldW B X.stack a cls a0 X.env.locals s.heap ∧ Cov X pins H B ∧ H a = none ∧ E cls σ H
def XL (X : Cx) (pins : List (Addr × Obj)) (E : XE) (e : Value) (s : Shared) : Prop :=
  wpAny (model X.prog X.w) X.A (noteFrame e X.env) (fun _ s' => XAt X pins E e s') (fun _ _ => False) s
theorem XL.passes {X : Cx} {pins : List (Addr × Obj)} {E : XE} : PassesOwn (model X.prog X.w) X.A X.env (XL X pins E) := PassesOwn.looking
theorem XAt.weak {X : Cx} {pins pl : List (Addr × Obj)} {E E' : XE} {e : Value} {s : Shared} (h : XAt X (pins ++ pl) E e s) (w : ∀ c σ H, E c σ H → E' c σ H) : XAt X pins E' e s := by
  obtain ⟨a, cls, a0, σ, H, B, rfl, I, hh, C, n, q⟩ := h
  exact ⟨a, cls, a0, σ, H, B, rfl, I.unpinned, hh, ⟨C.old, C.trk, fun p hp => C.pin p (by
    rcases List.mem_append.mp hp with z | z
    · exact List.mem_append_left _ z
    · exact List.mem_append_right _ (List.mem_append_left _ z))⟩, n, w _ _ _ q⟩
theorem XAt.imp {X : Cx} {pins : List (Addr × Obj)} {E E' : XE} {e : Value} {s : Shared} (h : XAt X pins E e s) (w : ∀ c σ H, E c σ H → E' c σ H) : XAt X pins E' e s := by
  obtain ⟨a, cls, a0, σ, H, B, rfl, I, hh, C, n, q⟩ := h
  exact ⟨a, cls, a0, σ, H, B, rfl, I, hh, C, n, w _ _ _ q⟩
theorem XL.weak {X : Cx} {pins pl : List (Addr × Obj)} {E E' : XE} {e : Value} {s : Shared} (h : XL X (pins ++ pl) E e s) (w : ∀ c σ H, E c σ H → E' c σ H) : XL X pins E' e s :=
  wpAny_mono h (fun _ _ x => XAt.weak x w) fun _ _ x => x
theorem XL.imp {X : Cx} {pins : List (Addr × Obj)} {E E' : XE} {e : Value} {s : Shared} (h : XL X pins E e s) (w : ∀ c σ H, E c σ H → E' c σ H) : XL X pins E' e s :=
  wpAny_mono h (fun _ _ x => x.imp w) fun _ _ x => x
def CXr (P : Program) (w : World) : CXT := fun outer H s E e s' => ∃ (a : Addr) (cls a0 : Value) (H' : Hp) (B : Heap), e = .ref a ∧ s'.os = s.os ∧ AllBare s'.gens ∧ Un (frs outer) [] H H' s.heap s'.heap ∧ HOk P w H' s'.heap ∧
  Heap.FlyingW B outer a cls a0 s'.heap ∧ H' a = none ∧ (∀ b o, s.heap.get? b = some o → b ∉ frs outer → ∃ o', B.get? b = some o') ∧ (∀ b u, H' b = some u → ∃ o, B.get? b = some o) ∧ E cls none H'
def OwnFr (X : Cx) : Prop := X.stack = X.env :: X.outer ∧ X.env.frame = some X.env.locals ∧ X.ex = []
section
variable {X : Cx} {pins : List (Addr × Obj)} {σ : St} {H : Hp} {s s' : Shared}
theorem XL.of_call {E : XK} {e : Value} (ow : OwnFr X) (I : Inv X pins σ H s) (h : CXr X.prog X.w X.stack H s E e s') : XL X pins (fun c σ' H' => σ' = σ ∧ E c none H') e s' := by
  obtain ⟨a, cls, a0, H', B, rfl, os, bare, un, hok, fl, na, old, trk, q⟩ := h
  have I' : Inv X pins σ H' s' := I.call' os un hok bare fun b z => absurd z (by simp)
  have C : Cov X pins H' B := by
    refine ⟨fun b o e hb => ?_, trk, fun p hp => ?_⟩
    · obtain ⟨o1, e1⟩ := I.base.there b o e (by rw [ow.2.2]; simp)
      refine old b o1 e1 fun z => ?_
      rcases List.mem_cons.mp (I.stkSub b z) with z | z
      · exact Nat.ne_of_lt (Nat.lt_of_lt_of_le (Heap.lt_size e) I.ok.above) z
      · exact hb z
    · obtain ⟨e, n, ne, nf, _⟩ := I.pin p hp
      refine old p.1 p.2 e fun z => ?_
      rcases List.mem_cons.mp (I.stkSub p.1 z) with z | z
      · exact ne z
      · exact nf z
  have fl' := fl
  rw [ow.1] at fl'
  refine wpAny_looks_onW (by rw [I.ok.frames, ow.1]) ow.2.1 fl' fun h' hh up => ?_
  refine ⟨a, cls, a0, σ, H', B, rfl, I'.flown (t' := s'.toks) ow.2.2 C fl.1 hh.1 up, ?_, C, na, rfl, q⟩
  rw [ow.1]
  exact hh
theorem XL.of_made {a : Addr} {cls : Value} {args : List Value} {h' : Heap} {E : XE} (ow : OwnFr X) (I : Inv X pins σ H s) (hx : Heap.MadeExcOf s.heap h' a cls args) (q : E cls σ H) : XL X pins E (.ref a) { s with heap := h' } := by
  obtain ⟨t, he, htn, ht⟩ := hx.there
  have fr := I.stack
  rw [ow.1] at fr
  have hin : ∀ env ∈ (X.env :: X.outer), ∀ b, env.frame = some b → b ∈ frs X.stack := fun env hm b hb => by rw [ow.1]; exact List.mem_filterMap.mpr ⟨env, hm, hb⟩
  have st0 : (PySem.W.hideAll s.heap (frs X.stack)).StaysIn s.heap := fun b o e => PySem.W.of_hideAll _ e
  have I1 : Inv X pins σ H { s with heap := h' } := I.kept (t' := s.toks) hx.keeps
  have C : Cov X pins H (PySem.W.hideAll s.heap (frs X.stack)) := by
    refine ⟨fun b o e hb => ?_, fun b u e => ?_, fun p hp => ?_⟩
    · obtain ⟨o1, e1⟩ := I.base.there b o e (by rw [ow.2.2]; simp)
      refine ⟨o1, PySem.W.hideAll_get _ e1 fun z => ?_⟩
      rcases List.mem_cons.mp (I.stkSub b z) with z | z
      · exact Nat.ne_of_lt (Nat.lt_of_lt_of_le (Heap.lt_size e) I.ok.above) z
      · exact hb z
    · have lt := I.hok.lt e
      have : ∃ o, s.heap.get? b = some o := by
        have z := I.hok b u e
        cases q2 : s.heap.get? b with
        | some o => exact ⟨o, rfl⟩
        | none =>
          exfalso
          have k : ∀ o, s.heap.get? b = some o → False := fun o z => by rw [q2] at z; cases z
          cases u with
          | lst xs => obtain ⟨_, _, _, _, e⟩ := z; exact k _ e
          | tup xs => obtain ⟨_, _, _, o, e, _⟩ := z; exact k _ e
          | dK kvs => obtain ⟨_, _, _, _, o, _, _, e, _⟩ := z; exact k _ e
          | dT kvs => obtain ⟨_, _, _, _, o, _, _, e, _⟩ := z; exact k _ e
          | set S n => obtain ⟨o, _, _, _, e, _⟩ := z; exact k _ e
          | ins C dx fs => obtain ⟨_, _, _, e, _⟩ := z; exact k _ e
          | own y => obtain ⟨_, e⟩ := z; exact k _ e
          | xd fs => obtain ⟨_, ⟨_, _, _, e, _⟩, _⟩ := z; exact k _ e
          | rng lo hi => obtain ⟨_, _, _, e⟩ := z; exact k _ e
          | frz ob u => obtain ⟨e, _⟩ := z; exact k _ e
          | tbl ps => exact k _ (show s.heap.get? b = some _ from z)
          | met f y => exact k _ (show s.heap.get? b = some _ from z)
          | ext φ => obtain ⟨_, ⟨_, e⟩, _⟩ := z; exact k _ e
      obtain ⟨o, eo⟩ := this
      refine ⟨o, PySem.W.hideAll_get _ eo fun z => ?_⟩
      have := I.stkFree b z
      rw [e] at this
      cases this
    · obtain ⟨e, n, ne, nf, _⟩ := I.pin p hp
      refine ⟨p.2, PySem.W.hideAll_get _ e fun z => ?_⟩
      rcases List.mem_cons.mp (I.stkSub p.1 z) with z | z
      · exact ne z
      · exact nf z
  have na : H a = none := by
    cases z : H a with
    | none => rfl
    | some u =>
      obtain ⟨o, e⟩ := C.trk a u z
      have := st0 a o e
      rw [hx.new] at this
      cases this
  have hen : (PySem.W.hideAll s.heap (frs X.stack)).get? a = none := by
    cases z : (PySem.W.hideAll s.heap (frs X.stack)).get? a with
    | none => rfl
    | some o =>
      have := st0 a o z
      rw [hx.new] at this
      cases this
  have fr2 : h'.FunFrames (PySem.W.hideAll s.heap (frs X.stack)) (X.env :: X.outer) := by
    have z := PySem.W.funFrames_hide (base := X.base) fr hin
    exact z.of_keeps fun b o hb _ => ⟨o, hx.keeps b o hb, rfl⟩
  unfold XL noteFrame
  simp only [ow.2.1]
  refine wpAny_bind (wpAny_field he rfl (x := .none) rfl ?_)
  rw [if_neg (by decide)]
  refine wpAny_entryW (s := { s with heap := h' }) (a0 := .ref t) (by rw [I.ok.frames, ow.1]) fr2 ow.2.1 he (fun b o e => hx.keeps b o (st0 b o e)) hen rfl (by show 1 < 6; decide) rfl fun h2 ⟨k1, k2, k3, k4⟩ => ?_
  refine ⟨a, cls, .ref t, σ, H, _, rfl, I1.flown (t' := s.toks) ow.2.2 C (fun b o e => hx.keeps b o (st0 b o e)) k1 k4, ⟨k1, hen, ?_, k3⟩, C, na, q⟩
  have k2' := k2
  rw [← ow.1] at k2'
  exact k2'
end
abbrev TSX := Ends → XE → St → Hp → Prop
def PSX (X : Cx) (st : Stmt) (t : TSX) : Prop :=
  ∀ (pins : List (Addr × Obj)) (s : Shared) (σ : St) (H : Hp) (D : Ends) (E : XE), Inv X pins σ H s → t D E σ H → wpAny (model X.prog X.w) X.A (exec st X.env) (SP X pins D) (XL X pins E) s
def PSsX (X : Cx) (st : List Stmt) (t : TSX) : Prop :=
  ∀ (pins : List (Addr × Obj)) (s : Shared) (σ : St) (H : Hp) (D : Ends) (E : XE), Inv X pins σ H s → t D E σ H → wpAny (model X.prog X.w) X.A (execs st X.env) (SP X pins D) (XL X pins E) s
def PEX (X : Cx) (e : Expr) (t : St → Hp → VK → (Value → Hp → Prop) → Prop) : Prop :=
  ∀ (pins : List (Addr × Obj)) (s : Shared) (σ : St) (H : Hp) (Q : VK) (E : Value → Hp → Prop), Inv X pins σ H s → t σ H Q E → wpAny (model X.prog X.w) X.A (eval e X.env) (EP X pins σ Q) (XL X pins fun c σ' H' => σ' = σ ∧ E c H') s
section
variable {X : Cx} {st : Stmt} {rest : List Stmt} {t u : TSX} {e : Expr} {pos : Pos}
def tLift (t : TS) : TSX := fun D _ σ H => t D σ H
theorem sx (h : PS X.nox st t') : PSX X st (tLift t') := fun pins s σ H D E I hw =>
  wpAny_mono (h pins s σ H D (I.wish _) hw) (fun _ _ q => q.unwish) fun _ _ z => False.elim z
def tSeqX (t u : TSX) : TSX := fun D E σ H => t { D with nx := u D E } E σ H
def tNextX : TSX := fun D _ σ H => D.nx σ H
theorem ssx_nil : PSsX X [] tNextX := fun _ _ σ H _ _ I h => wpAny_execs_nil ⟨σ, H, I, h⟩
theorem ssx_cons (h1 : PSX X st t) (h2 : PSsX X rest u) : PSsX X (st :: rest) (tSeqX t u) := by
  intro pins s σ H D E I h
  refine wpAny_execs_cons (thn (h1 pins s σ H { D with nx := u D E } E I h) fun f s1 q => ?_)
  cases f with
  | next =>
    obtain ⟨σ', H', I', q⟩ := q
    exact h2 pins s1 σ' H' D E I' q
  | ret v => exact q
  | brk => exact q
  | cont => exact q
theorem ssx_one (h1 : PSX X st t) : PSsX X [st] t := by
  intro pins s σ H D E I h
  refine wpAny_execs_cons (thn (h1 pins s σ H D E I h) fun f s1 q => ?_)
  cases f with
  | next => exact wpAny_execs_nil q
  | ret v => exact q
  | brk => exact q
  | cont => exact q
theorem PT.lift {tc : TT} (h : PT X.nox e tc) : ∀ (pins : List (Addr × Obj)) (s : Shared) (σ : St) (H : Hp) (Q : Bool → Hp → Prop) (E : Value → Shared → Prop), Inv X pins σ H s → tc σ H Q →
    wpAny (model X.prog X.w) X.A (isTrue e X.env (eval e X.env)) (TP X pins σ Q) E s := fun pins s σ H Q E I hw =>
  wpAny_mono (h pins s σ H Q (I.wish _) hw) (fun _ _ ⟨H', I', q⟩ => ⟨H', I'.unwish, q⟩) fun _ _ z => False.elim z
theorem PE.lift {te : TE} (h : PE X.nox e te) : ∀ (pins : List (Addr × Obj)) (s : Shared) (σ : St) (H : Hp) (Q : VK) (E : Value → Shared → Prop), Inv X pins σ H s → te σ H Q →
    wpAny (model X.prog X.w) X.A (eval e X.env) (EP X pins σ Q) E s := fun pins s σ H Q E I hw =>
  wpAny_mono (h pins s σ H Q (I.wish _) hw) (fun _ _ ⟨v, H', I', r, q⟩ => ⟨v, H', I'.unwish, r, q⟩) fun _ _ z => False.elim z
def tIfX (c : TT) (t u : TSX) : TSX := fun D E σ H => c σ H fun b H1 => if b = true then t D E σ H1 else u D E σ H1
theorem sx_if {c : Expr} {a b : List Stmt} {tc : TT} (hc : PT X.nox c tc) (ha : PSsX X a t) (hb : PSsX X b u) : PSX X (.If c a b pos) (tIfX tc t u) := by
  intro pins s σ H D E I h
  refine wpAny_If (thn (hc.lift pins s σ H _ _ I h) fun d s1 ⟨H1, I1, q1⟩ => ?_)
  cases d with
  | true => exact ha pins s1 σ H1 D E I1 q1
  | false => exact hb pins s1 σ H1 D E I1 q1
def tJX (t : TSX) : TSX := fun D E σ H => ∃ M : St → Hp → Prop, t { D with nx := M } E σ H ∧ ∀ σ' H', M σ' H' → D.nx σ' H'
theorem sx_expr {te : St → Hp → VK → (Value → Hp → Prop) → Prop} (he : PEX X e te) (hs : swapsWith e none pos.line X.env = pure false := by rfl) : PSX X (.Expr e pos) (fun D E σ H => te σ H (fun _ H1 => D.nx σ H1) fun c H1 => E c σ H1) := by
  intro pins s σ H D E I h
  exact wpAny_Expr_any (wpAny_mono (he pins s σ H _ _ I h) (fun v s1 ⟨x, H1, I1, r1, q1⟩ => ⟨σ, H1, I1, q1⟩) fun x s1 z => z.imp fun c σ' H' ⟨a, b⟩ => by rw [a]; exact b) I.quiet hs
theorem sx_ret {te : St → Hp → VK → (Value → Hp → Prop) → Prop} (he : PEX X e te) : PSX X (.Return (some e) pos) (fun D E σ H => te σ H D.rt fun c H1 => E c σ H1) := by
  intro pins s σ H D E I h
  exact wpAny_Return_some (wpAny_mono (he pins s σ H _ _ I h) (fun v s1 ⟨x, H1, I1, r1, q1⟩ => ⟨x, σ, H1, I1, r1, q1⟩) fun x s1 z => z.imp fun c σ' H' ⟨a, b⟩ => by rw [a]; exact b)
theorem sx_set {i : Nat} {x : Str} {te : St → Hp → VK → (Value → Hp → Prop) → Prop} {pos' : Pos} (hN : X.N.Nodup) (hi : X.N[i]? = some x) (hx : Loc X.env.scope x) (he : PEX X e te) (hs : swapsWith e (some (.Name x pos')) pos.line X.env = pure false := by rfl)
    (hf : X.fn x = true ∨ X.env.scope.names.lookup x = some .local := by first | exact .inl rfl | exact .inr rfl | assumption) :
    PSX X (.Assign [.Name x pos'] e pos) (fun D E σ H => te σ H (fun v H1 => D.nx (σ.set i (some v)) H1) fun c H1 => E c σ H1) := by
  intro pins s σ H D E I h
  refine wpAny_Assign_Name (wpAny_mono (he pins s σ H _ _ I h) (fun v s1 ⟨y, H1, I1, r1, q1⟩ => ?_) fun x s1 z => z.imp fun c σ' H' ⟨a, b⟩ => by rw [a]; exact b) hs
  exact store_ok I1 hN hi hx r1 (fun s2 I2 => ⟨_, H1, I2, q1⟩) hf
def tCallX (sp : Sp) (t : TA) : St → Hp → VK → (Value → Hp → Prop) → Prop := fun σ H Q E => t σ H fun vs H1 => sp vs H1 Q fun c _ H' => E c H'
theorem AP.unwish {pins : List (Addr × Obj)} {σ : St} {Q : List V → Hp → Prop} {us : List Value} {s' : Shared} {Ex : Value → Shared → Prop} (h : AP (X.wish Ex) pins σ Q us s') : AP X pins σ Q us s' := by
  obtain ⟨vs, H', I, r, q⟩ := h
  exact ⟨vs, H', I.unwish, r, q⟩
theorem PA.lift {es : List Expr} {ta : TA} (h : PA X.nox es ta) : ∀ (pos : Pos) (pins : List (Addr × Obj)) (s : Shared) (σ : St) (H : Hp) (Q : List V → Hp → Prop) (E : Value → Shared → Prop), Inv X pins σ H s → ta σ H Q →
    wpAny (model X.prog X.w) X.A (spliced (backTo pos (starEach es X.env))) (AP X pins σ Q) E s := fun pos pins s σ H Q E I hw =>
  wpAny_mono (h pos pins s σ H Q (I.wish _) hw) (fun _ _ q => AP.unwish q) fun _ _ z => False.elim z
theorem run_fnX {f : Addr} {fd : FuncData} {ps : List Str} {sp : Sp} {k : Nat} {ds : List Value} {dvs : List V} {pins : List (Addr × Obj)} {σ : St} {H : Hp} {s : Shared} {Q : VK} {E : Value → Hp → Prop} {us : List Value} {vs : List V} (ow : OwnFr X)
    (F : FnOk X.prog X.w X.K X.mg X.base (CXr X.prog X.w) k f fd ps sp) (hr : Room k X.A) (hb : Binds X.K fd ps ds) (hd : Vals dvs ds)
    (I : Inv X pins σ H s) (r : Vals vs us) (h : sp (vs ++ dvs) H Q fun c _ H' => E c H') : wpAny (model X.prog X.w) X.A (call (.ref f) us) (EP X pins σ Q) (XL X pins fun c σ' H' => σ' = σ ∧ E c H') s := by
  have r2 : Vals (vs ++ dvs) (us ++ ds) := r.append hd
  have hl : (us ++ ds).length = ps.length := by rw [← r2.length]; exact F.len _ _ _ _ h
  refine wpAny_call (codeAny_mono (F.run X.A X.stack s H ⟨us, []⟩ (us ++ ds) (vs ++ dvs) Q _ hr I.env0 (hb s us I.kIn hl) r2 h) fun r s' hq => ?_)
  cases r with
  | error e => exact XL.of_call (E := fun c _ H' => E c H') ow I (show CXr X.prog X.w X.stack H s (fun c _ H' => E c H') e s' from hq)
  | ok fl =>
    cases fl with
    | ret u => exact I.after hq
    | next => exact False.elim hq
    | brk => exact False.elim hq
    | cont => exact False.elim hq
theorem pex_def {x : Str} {st : Stmt} {ps : List Str} {f : Addr} {fd : FuncData} {k : Nat} {sp : Sp} {p : Pos} {es : List Expr} {ta : TA} (ow : OwnFr X) (D : Def X.K X.mg x st ps f fd) (G : FnOk X.prog X.w X.K X.mg X.base (CXr X.prog X.w) k f fd ps sp) (hr : Room k X.A) (ha : PA X.nox (e :: es) ta)
    (hp : plainE e = true := by rfl) (hps : es.all plainE = true := by rfl) (hg : Gl X x := by rfl) (hdb : (x == ("__debug__" : Str)) = false := by decide) : PEX X (.Call (.Name x p) (e :: es) [] pos) (tCallX sp ta) := by
  intro pins s σ H Q E I h
  refine wpAny_Call_Name_kw (ld_glob I hg D.m ?_ hdb)
  refine PySem.W.callWith_K (h₀ := X.base) I.ok.mod.kin D.F.kp (thn (ha.lift pos pins s σ H _ _ I h) fun us s1 ⟨vs, H1, I1, r, q⟩ => ⟨I1.kIn, ?_⟩) (starEach_plain hp _ _) (starAny_plain hps _ _)
  exact run_fnX (dvs := []) ow G hr D.b .nil I1 r (by rw [List.append_nil]; exact q)
theorem pex_meth {C f : Addr} {m : Str} {fd : FuncData} {k : Nat} {ps : List Str} {sp : Sp} {o : Expr} {es : List Expr} {to : TE} {ta : TA} {apos : Pos} {pl : Sem Bool} (ow : OwnFr X) (ho : PE X.nox o to) (c : Cls X.K C) (hm : Meth X.K C m f) (G : FnOk X.prog X.w X.K X.mg X.base (CXr X.prog X.w) k f fd ps sp) (hr : Room k X.A) (hb : Binds X.K fd ps []) (ha : PA X.nox (e :: es) ta)
    (hp : plainE e = true := by rfl) (hps : es.all plainE = true := by rfl)
    (ht : eval (.Call (.Attribute o m apos) (e :: es) [] pos) X.env = (do
      let ov ← eval o X.env
      standAt apos.atName
      let (f, first) ← holding [ov] (getMethod ov m pl)
      callWith pos f first (backTo pos (starEach (e :: es) X.env)) (backToKw pos (keywordEach [] X.env))) := by rfl) :
    PEX X (.Call (.Attribute o m apos) (e :: es) [] pos) (fun σ H Q E => to σ H fun x H1 => ∃ a dx fs, x = .ref a ∧ H1 a = some (.ins C dx fs) ∧ fs.lookup m = none ∧ ta σ H1 fun vs H2 => sp (x :: vs) H2 Q fun c _ H' => E c H') := by
  intro pins s σ H Q E I h
  refine PySem.W.methodCall_KW (pl := pl) (thn (ho.lift pins s σ H _ _ I h) fun u s1 ⟨x, H1, I1, rx, a, dx, fs, ex, ea, l, q⟩ => ?_) ht
  subst ex
  obtain rfl : u = Value.ref a := rx
  refine getmeth_ok I1 ea c hm l ?_
  refine PySem.W.callWith_K (first := [.ref a]) (h₀ := X.base) I.ok.mod.kin hm.kp (thn (ha.lift pos pins s1 σ H1 _ _ I1 q) fun us s2 ⟨vs, H2, I2, r, q2⟩ => ⟨I2.kIn, ?_⟩) (starEach_plain hp _ _) (starAny_plain hps _ _)
  exact run_fnX (us := .ref a :: us) (vs := .ref a :: vs) (dvs := []) ow G hr hb .nil I2 (.cons rfl r) (by rw [List.append_nil]; exact q2)
end
section
variable {P : Program} {w : World} {K : PySem.W.Frag} {mg : Str → Option Value} {base : Heap}
theorem ownFr_cx {CX : CXT} {N : List Str} {qual : Str} {scope : Scope} {f : Addr} {cd : Value} {A : Around} {outer : List Env} {s : Shared} {H : Hp} {E : XK} : OwnFr (cxOf CX P w K mg base N qual scope f cd A outer s H E) := ⟨rfl, rfl, rfl⟩
theorem Fun.okX {x qual : Str} {st : Stmt} {f : Addr} {fd : FuncData} {N ps : List Str} {k : Nat} {sp : Sp} (F : Fun K x qual st f fd) (S : FnScope N ps (defScope st)) (len : ∀ vs H Q E, sp vs H Q E → vs.length = ps.length)
    (hbody : ∀ (cdv : Value) (A : Around) (outer : List Env) (s : Shared) (H : Hp) (vs : List V) (Q : VK) (E : XK), Room k (A.deeper (envOfC qual (defScope st) s.heap.objs.size f cdv)) → sp vs H Q E →
      ∃ t : TSX, PSsX (cxOf (CXr P w) P w K mg base N qual (defScope st) f cdv A outer s H E) (defBody st) t ∧ t { nx := fun _ H' => Q .non H', rt := Q } (fun c _ H' => E c none H') (start N vs) H) : FnOk P w K mg base (CXr P w) (k + 1) f fd ps sp := by
  obtain ⟨oc, od, kV, doc, pm, an, cdv, ct, osl, rfl, lk, hcd⟩ := F.ex
  refine fn_of lk hcd S len fun A outer s H vs Q E hr hsp => ?_
  obtain ⟨t, h, q⟩ := hbody cdv A outer s H vs Q E hr hsp
  refine ⟨fun D σ H' => t D (fun c _ H' => E c none H') σ H', fun pins s1 σ H1 D I hw => ?_, q⟩
  refine wpAny_mono (h pins s1 σ H1 D _ I hw) (fun _ _ z => z) fun e s2 z => ?_
  show wpAny (model P w) _ (leaving _ e) _ _ s2
  unfold leaving
  refine wpAny_bind (wpAny_mono z (fun _ s3 z3 => ?_) fun _ _ z => z.elim)
  obtain ⟨a, cls, a0, σ', H', B, rfl, I', hh, C, na, q'⟩ := z3
  refine wpAny_landsW hh fun h' fl up => ?_
  have I2 := I'.flown (t' := s3.toks) rfl C hh.1 fl.1 up
  obtain ⟨k1, k2, ⟨_, _, k3⟩, k4⟩ := fl
  exact ⟨a, cls, a0, H', B, rfl, I2.os, I2.bare, I2.base, I2.hok, ⟨k1, k2, k3, k4⟩, na, C.old, C.trk, q'⟩
end
end L2
set_option Elab.async false
set_option linter.all false
set_option maxRecDepth 100000
set_option maxHeartbeats 1000000
namespace PySem.W
open PySem PySem.Spec PySem.Calls PyProof.Rows
section
variable {prog : Program} {w : World} {A : Around} {E : Value → Shared → Prop} {h : Heap} {g : Array GenState} {d : Drawn} {t : Nat} {os : OsState} {a C : Addr} {o : Obj} {K : Frag}
theorem class_get_exc {R : Result → Shared → Prop} (X : K.In h) (hx : h.get? a = some o) (hc : o.cls = .ref C) (hm : mroIn K C (.type "object") = some true) (hq : R (.ok (.ret (.ref C))) ⟨h, g, d, t, os⟩) :
    codeAny (model prog w) A (.call (.builtin "getset_descriptor.__get__") ⟨[.builtin "object.__class__", .ref a, .ref C], []⟩) R ⟨h, g, d, t, os⟩ := by
  have hT5 : (⟨h, g, d, t, os⟩ : Shared).TypeIs (.builtin "object.__class__") "getset_descriptor" := F.typeOf_object_class
  have L : Looks (model prog w) h (isSubtype (.ref C) (.type (".".intercalate ("object.__class__".cutAt '.').dropLast))) true := by
    rw [F.owner_object_class]
    exact looks_subIn X hm
  refine codeAny_call_builtin F.slot_gs_get.plain F.entry_gs_get (F.slot_gs_get.check _ _ _ _ _ _ _ _ hT5 (F.args_gs_get _ _ _) ?_)
  repeat (any_goals (first | assumption | (with_reducible refine wpAny_loadPart_at hx ?_; rw [hc]) | with_reducible refine L.at ?_ | wp_step))
  refine ⟨Code.quiet_builtin _ (by decide +kernel), codeAny_builtin F.entry_object_class ?_⟩
  repeat (any_goals (first | assumption | (with_reducible refine wpAny_loadPart_at hx ?_; rw [hc]) | wp_step))
theorem class_entry_exc {tk : Tok} {Q : Fin → Shared → Prop} (X : K.In h) (hx : h.get? a = some o) (hc : o.cls = .ref C) (ha : findIn K (.ref C) "__class__" = some (some (.builtin "object.__class__"))) (hm : mroIn K C (.type "object") = some true) (hq : Q (.done (.ret (.ref C))) ⟨h, g, d, t, os⟩) :
    wpAny (model prog w) A (Builtin.«object.__getattribute__» ⟨[.ref a, .str "__class__" tk], []⟩) Q E ⟨h, g, d, t, os⟩ := by
  have f5 := F.typeOf_object_class
  have f6 := F.slot_gs_get.lookup
  have f7 := F.slot_gs_set.lookup
  have hT5 : (⟨h, g, d, t, os⟩ : Shared).TypeIs (.builtin "object.__class__") "getset_descriptor" := F.typeOf_object_class
  have L := looks_findIn (M := model prog w) X ha
  repeat (any_goals (first | assumption | (with_reducible refine wpAny_loadPart_at hx ?_; rw [hc]) | with_reducible refine L.at ?_ | wp_step))
  refine class_get_exc X hx hc hm ?_
  repeat (any_goals (first | assumption | wp_step))
theorem check_ga_exc {M : Model} {nameV : Value} {Q : Unit → Shared → Prop} (X : K.In h) (hx : h.get? a = some o) (hc : o.cls = .ref C) (hb : subIn K (.ref C) (.type "BaseException") = some true) (hq : Q () ⟨h, g, d, t, os⟩) :
    wpAny M A (checkBuiltinCall "BaseException.__getattribute__" ⟨[.ref a, nameV], []⟩) Q E ⟨h, g, d, t, os⟩ := by
  have hk : builtinKind "BaseException.__getattribute__" = some .slot := by decide +kernel
  have hsplit : splitId "BaseException.__getattribute__" = some ("BaseException", "__getattribute__") := by decide +kernel
  have L := looks_subIn (M := M) X hb
  have ha := F.args_bexc_ga (.ref a) nameV
  simp only [checkBuiltinCall, hk, hsplit]
  refine wpAny_bind ?_
  unfold isInstance
  repeat (first | (with_reducible refine wpAny_loadPart_at hx ?_; rw [hc]) | with_reducible refine L.at ?_ | wp_step)
  exact hq
structure ExcK (K : Frag) (C : Addr) : Prop where
  cl : findIn K (.ref C) "__class__" = some (some (.builtin "object.__class__"))
  ga : findIn K (.ref C) "__getattribute__" = some (some (.builtin "BaseException.__getattribute__"))
  gt : findIn K (.ref C) "__getattr__" = some none
  ob : mroIn K C (.type "object") = some true
  bx : subIn K (.ref C) (.type "BaseException") = some true
theorem class_call_exc {tk : Tok} {R : Result → Shared → Prop} (X : K.In h) (hx : h.get? a = some o) (hc : o.cls = .ref C) (F0 : ExcK K C) (hq : R (.ok (.ret (.ref C))) ⟨h, g, d, t, os⟩) :
    codeAny (model prog w) A (.call (.builtin "BaseException.__getattribute__") ⟨[.ref a, .str "__class__" tk], []⟩) R ⟨h, g, d, t, os⟩ :=
  codeAny_call_builtin F.attr_ValueError.ga.plain F.entry_bexc_ga (check_ga_exc X hx hc F0.bx (class_entry_exc X hx hc F0.cl F0.ob hq))
theorem class_by_exc {tk : Tok} {Q : Value → Shared → Prop} (X : K.In h) (hx : h.get? a = some o) (hc : o.cls = .ref C) (F0 : ExcK K C) (hq : Q (.ref C) ⟨h, g, d, t, os⟩) :
    wpAny (model prog w) A (getAttrBy (.ref a) (.str "__class__" tk) false) Q E ⟨h, g, d, t, os⟩ := by
  have f3 := F.attr_ValueError.ga.bind (.ref a)
  have L1 := looks_findIn (M := model prog w) X F0.ga
  have L2 := looks_findIn (M := model prog w) X F0.gt
  have hx2 : (Value.builtin "BaseException.__getattribute__" == Value.builtin "object.__getattribute__") = false := by decide +kernel
  have hx1 : (onTheHeap (Value.ref C) && Value.builtin "BaseException.__getattribute__" == Value.builtin "object.__getattribute__") = false := by rw [hx2]; rfl
  repeat (any_goals (first | assumption | (with_reducible refine wpAny_loadPart_at hx ?_; rw [hc]) | with_reducible refine L1.at ?_ | with_reducible refine L2.at ?_ | wp_step))
  refine class_call_exc X hx hc F0 ?_
  repeat (any_goals (first | assumption | wp_step))
theorem class_attr_exc {Q : Option Value → Shared → Prop} (X : K.In h) (hx : h.get? a = some o) (hc : o.cls = .ref C) (F0 : ExcK K C) (hq : Q (some (.ref C)) ⟨h, g, d, t + 1, os⟩) : wpAny (model prog w) A (getAttr? (.ref a) "__class__") Q E ⟨h, g, d, t, os⟩ := by
  unfold getAttr? getAttrBy?
  repeat (any_goals (first | assumption | with_reducible apply class_by_exc X hx hc F0 | wp_step))
end
theorem kitx_exc {K : Frag} {a C : Addr} (F0 : ExcK K C) (hcl : (clsIn K C).isSome = true) : KitX K (.ref a) (.ref C) (fun h => ∃ o, h.get? a = some o ∧ o.cls = .ref C) where
  ty := fun M h X ⟨o, e, c⟩ => by
    rw [← c]
    exact (Looks.ld e).andThen .now
  it := fun _ _ X _ => by
    unfold clsIn at hcl
    split at hcl
    · rename_i c' d' cd' sl' ho
      intro A' Q' E' s' k q
      unfold isType loadHead
      exact wpAny_bind (wpAny_loadPart (k _ _ (X _ _ ho)) (wpAny_pure q))
    · cases hcl
  ne := fun h tp dd its n sl X htp => by
    refine Bool.eq_false_iff.mpr fun q => ?_
    have e : C = tp := Value.ref.inj (beq_iff_eq.mp q)
    subst e
    unfold clsIn at hcl
    split at hcl
    · rename_i c' d' cd' sl' ho
      have z := (X _ _ ho).symm.trans htp
      cases z
    · cases hcl
  ca := fun {prog w A E Q s} X p k => by
    obtain ⟨o, e, c⟩ := p
    exact class_attr_exc X e c F0 k
end PySem.W
set_option Elab.async false
set_option linter.all false
set_option maxRecDepth 100000
set_option maxHeartbeats 1000000
namespace L2
open PySem PySem.Spec PyProof.Rows
abbrev Cx.hand (X : Cx) (e : Value) : Cx := { X with A := X.A.mark (some e), calm := false, xe := fun _ _ => False }
section
variable {X : Cx} {pins : List (Addr × Obj)} {σ : St} {H : Hp} {s : Shared}
theorem Inv.hand (I : Inv X pins σ H s) (e : Value) : Inv (X.hand e) pins σ H s :=
  ⟨⟨I.ok.mod, I.ok.kind, I.ok.glob, I.ok.blt, I.ok.above, I.ok.inj, I.ok.has, I.ok.cab, (fun z => by cases z), I.ok.frames, I.ok.stk, I.ok.exf, I.ok.bs, I.ok.bsz, I.ok.noex, I.ok.exfs, I.ok.funs, I.ok.frf⟩, I.os, I.bare, I.base, I.loc, I.cell, I.free, I.freeC, I.pin, I.hok, I.len⟩
theorem Inv.unhand {e : Value} (ok : X.Ok) (I : Inv (X.hand e) pins σ H s) : Inv X pins σ H s :=
  ⟨ok, I.os, I.bare, I.base, I.loc, I.cell, I.free, I.freeC, I.pin, I.hok, I.len⟩
theorem Inv.track {a : Addr} {o : Obj} {vs : Array Value} {φ : Heap → Prop} {B : Heap} (I : Inv X pins σ H s) (hx : X.ex = []) (C : Cov X pins H B) (st : B.StaysIn s.heap) (na : H a = none) (nb : B.get? a = none) (ho : s.heap.get? a = some o) (hd : o.data = .fields vs)
    (p : φ s.heap) (stb : ∀ h1 h2 : Heap, φ h1 → (∀ o, h1.get? a = some o → h2.get? a = some o) → φ h2) : Inv X pins σ (upd H a (.ext φ)) s := by
  have nl : a ≠ X.env.locals := by
    rintro rfl
    obtain ⟨m, ⟨o', es, ep, e, d, _⟩, _⟩ := I.loc
    rw [ho] at e; cases e
    rw [hd] at d; cases d
  have nfs : a ∉ X.fs := fun z => by
    obtain ⟨_, o', e, d⟩ := I.funs.mem z
    rw [ho] at e; cases e
    exact d _ hd
  have n0 : X.s₀.heap.get? a = none := by
    cases z : X.s₀.heap.get? a with
    | none => rfl
    | some o' =>
      obtain ⟨o2, e2⟩ := C.old a o' z nfs
      rw [nb] at e2; cases e2
  have nc : ∀ x c, X.env.cells.lookup x = some c → c ≠ a := fun x c e z => by
    obtain ⟨v, o', e', d⟩ := I.cell x c e
    rw [z, ho] at e'; cases e'
    rw [hd] at d; cases d
  have np : ∀ q ∈ X.pn ++ pins, q.1 ≠ a := fun q hq z => by
    obtain ⟨o', e⟩ := C.pin q hq
    rw [z, nb] at e; cases e
  refine ⟨I.ok, I.os, I.bare, ⟨I.base.keep |> fun k b o e n hb hx => k b o e n hb hx, I.base.slot, fun b o' e n hb => ?_, I.base.there, fun b xs e => ?_, fun b ob u e => ?_, fun b ps e => ?_⟩, I.loc, I.cell, ?_, fun x c e => ?_, fun q hq => ?_, fun b u e => ?_, I.len⟩
  · rw [upd_ne (fun z => by subst z; rw [n0] at e; cases e)]
    exact I.base.free b o' e n hb
  · exact upd_old (I.base.tups b xs e) na
  · exact upd_old (I.base.frzs b ob u e) na
  · obtain ⟨more, e'⟩ := I.base.tbls b ps e
    exact ⟨more, upd_old e' na⟩
  · rw [upd_ne (Ne.symm nl)]
    exact I.free
  · rw [upd_ne (nc x c e)]
    exact I.freeC x c e
  · obtain ⟨e, n, r⟩ := I.pin q hq
    exact ⟨e, by rw [upd_ne (np q hq)]; exact n, r⟩
  · by_cases z : b = a
    · subst z
      rw [upd_same] at e
      cases e
      exact ⟨p, ⟨o, ho⟩, stb⟩
    · rw [upd_ne z] at e
      exact (I.hok b u e).stay (fun _ _ _ q => q) (fun c q => upd_old q na) fun c xs q => upd_old q na
theorem Inv.unbind {i : Nat} {x : Str} {h' : Heap} {u : Option Value} {m : Str → Option Value} (I : Inv X pins σ H s) (hN : X.N.Nodup) (hi : X.N[i]? = some x)
    (hm : s.heap.Ns X.env.locals m) (hl : ∀ (j : Nat) (y : Str) (v : V), X.N[j]? = some y → σ[j]? = some (some v) → Vis X.env.scope y → ∃ u, RelV v u ∧ Look X.env s.heap m y u)
    (hn' : h'.Ns X.env.locals (fun y => if y = x then u else m y)) (hs : Heap.SameBut X.env.locals s.heap h') : Inv X pins (σ.set i none) H { s with heap := h' } := by
  have cne := I.cne
  obtain ⟨oL, _, _, hoL, _⟩ := id hm
  refine ⟨I.ok, I.os, I.bare, ⟨fun b o e n hb hx => ?_, fun b o e n hb hx => ?_, I.base.free, fun b o e hx => ?_, I.base.tups, I.base.frzs, I.base.tbls⟩, ⟨_, hn', fun j y v' e1 e2 e3 => ?_⟩, fun y c e => ?_, I.free, I.freeC, fun p hp => ?_, fun b ob e => ?_, by simpa using I.len⟩
  · exact (hs.2 b (Nat.ne_of_lt (Nat.lt_of_lt_of_le (Heap.lt_size e) I.ok.above))).trans (I.base.keep b o e n hb hx)
  · obtain ⟨sl, e1⟩ := I.base.slot b o e n hb hx
    exact ⟨sl, (hs.2 b (Nat.ne_of_lt (Nat.lt_of_lt_of_le (Heap.lt_size e) I.ok.above))).trans e1⟩
  · obtain ⟨o', e1⟩ := I.base.there b o e hx
    exact ⟨o', (hs.2 b (Nat.ne_of_lt (Nat.lt_of_lt_of_le (Heap.lt_size e) I.ok.above))).trans e1⟩
  · by_cases hj : j = i
    · subst hj
      have : j < σ.length := by rw [I.len]; exact (List.getElem?_eq_some_iff.mp hi).1
      rw [List.getElem?_set_self this] at e2
      cases e2
    · rw [List.getElem?_set_ne (Ne.symm hj)] at e2
      obtain ⟨u', r', q⟩ := hl j y v' e1 e2 e3
      refine ⟨u', r', ?_⟩
      rcases q with ⟨k, e⟩ | ⟨k, c, e, z⟩
      · refine .inl ⟨k, ?_⟩
        have : y ≠ x := fun e => hj (nodup_ix hN e1 (e ▸ hi))
        simp [this, e]
      · exact .inr ⟨k, c, e, z.sameBut hs (cne y c e)⟩
  · obtain ⟨w', z⟩ := I.cell y c e
    exact ⟨w', z.sameBut hs (cne y c e)⟩
  · obtain ⟨e, n, ne, nf, d⟩ := I.pin p hp
    exact ⟨(hs.2 p.1 ne).trans e, n, ne, nf, d⟩
  · refine (I.hok b ob e).stay (fun c w' hc q => (hs.2 c ?_).trans q) (fun _ q => q) fun _ _ q => q
    rintro rfl
    rcases hc with rfl | hc
    · rw [I.free] at e; cases e
    · rw [I.free] at hc; cases hc
end
def excHO (a : Addr) (cls : Value) : HO := .ext fun h => ∃ o, h.get? a = some o ∧ o.cls = cls
section
variable {X : Cx}
def tTry (K : PySem.W.Frag) (D0 : Addr) (i : Nat) (tb : TSX) (th : TS) : TSX := fun D _ σ H =>
  tb D (fun c σ' H' => PySem.W.exmOne K c (.ref D0) = some true ∧ ∀ a, H' a = none →
    th { nx := fun σ2 H2 => D.nx (σ2.set i none) H2, rt := D.rt, bk := fun σ2 H2 => D.bk (σ2.set i none) H2, ct := fun σ2 H2 => D.ct (σ2.set i none) H2 } (σ'.set i (some (.ref a))) (upd H' a (excHO a c))) σ H
theorem sx_try {D0 : Addr} {body : List Stmt} {b₀ : Stmt} {suite : List Stmt} {x n : Str} {np hpos pos : Pos} {i : Nat} {tb : TSX} {th : TS} (ow : OwnFr X) (hN : X.N.Nodup) (hb : PSsX X body tb) (hh : ∀ e, PSs (X.hand e) (b₀ :: suite) th)
    (hm : X.mg x = some (.ref D0)) (hi : X.N[i]? = some n) (hl : X.env.scope.names.lookup n = some .local := by rfl) (hg : Gl X x := by rfl) (hd : (x == ("__debug__" : Str)) = false := by decide) :
    PSX X (.Try body [.ExceptHandler (some (.Name x np)) (some n) (b₀ :: suite) hpos] [] [] pos) (tTry X.K D0 i tb th) := by
  intro pins s σ H D E I h
  refine wpAny_Try_except (wpAny_mono (hb pins s σ H D _ I h) (fun f s1 q => ?_) fun e s1 z => ?_)
  · cases f with
    | next => exact wpAny_execs_nil q
    | ret v => exact q
    | brk => exact q
    | cont => exact q
  refine wpAny_mono z (fun _ s2 z2 => ?_) fun _ _ z => z.elim
  obtain ⟨a, cls, a0, σ', H', B, rfl, I2, held, C, na, em, k⟩ := z2
  refine wpAny_landsW held fun h3 fl3 up3 => ?_
  have I3 := I2.flown (t' := s2.toks) ow.2.2 C held.1 fl3.1 up3
  refine wpAny_handleBy_cons (codeAny_handlers_test ?_) (by intro q; cases q)
  refine ld_glob (X := X.hand (.ref a)) (I3.hand (.ref a)) hg hm ?_ hd
  obtain ⟨ob, hob, hoc⟩ := fl3.there
  have LT : PySem.W.Looks (model X.prog X.w) h3 (typeOf (.ref a)) cls := by
    rw [← hoc]
    exact (PySem.W.Looks.ld hob).andThen .now
  refine PySem.W.Looks.here (s := { s2 with heap := h3 }) (PySem.W.exm_one I3.kIn LT em) ?_
  refine codeAny_handlers_suite_as ?_
  refine lands_againW fl3 fun h4 fl4 up4 => ?_
  have I4 := I3.flown (t' := s2.toks) ow.2.2 C fl3.1 fl4.1 up4
  obtain ⟨oe, ws, hoe, hoec, hoed, _⟩ := fl4.first
  have I5 : Inv X pins σ' (upd H' a (excHO a cls)) _ := I4.track (B := B) ow.2.2 C fl4.1 na fl4.2.1 hoe hoed (φ := fun h => ∃ o, h.get? a = some o ∧ o.cls = cls) ⟨oe, hoe, hoec⟩ fun h1 h2 ⟨o, e, c⟩ q => ⟨o, q o e, c⟩
  refine store_ok (X := X.hand (.ref a)) (I5.hand (.ref a)) hN hi (.inl hl) (v := .ref a) rfl (fun s6 I6 => ?_) (.inr hl)
  refine wpAny_mono (hh (.ref a) pins s6 _ _ _ I6 (k a na)) (fun f s7 q7 => ?_) fun _ _ z => z.elim
  have out : ∀ {σ7 : St} {H7 : Hp} {R : St → Hp → Prop} {Q : Unit → Shared → Prop}, Inv (X.hand (.ref a)) pins σ7 H7 s7 → (∀ s9, Inv X pins (σ7.set i none) H7 s9 → Q () s9) →
      wpAny (model X.prog X.w) X.A (do bindName X.env n .none; unbindBehindTheSuite X.env n hpos) Q (XL X pins E) s7 := fun {σ7 H7 R Q} I7 kk => by
    have I7' := Inv.unhand I.ok I7
    refine wpAny_bind (wpAny_bindName (store_ok I7' hN hi (.inl hl) (v := .non) rfl (fun s8 I8 => ?_) (.inr hl)))
    unfold unbindBehindTheSuite
    obtain ⟨m, hn, hlk⟩ := I8.loc
    have hiσ : i < σ7.length := by rw [I7'.len]; exact (List.getElem?_eq_some_iff.mp hi).1
    obtain ⟨u8, r8, l8⟩ := hlk i n .non hi (by rw [List.getElem?_set_self hiσ]) (.inl hl)
    have hmn : m n = some u8 := by
      rcases l8 with ⟨_, e⟩ | ⟨kd, _⟩
      · exact e
      · rcases kd with kd | kd
        · have z : X.env.scope.names.lookup n = some .cell := kd
          rw [hl] at z; cases z
        · have z : X.env.scope.names.lookup n = some .free := kd
          rw [hl] at z; cases z
    refine wpAny_onRaise (wpAny_unbindName_local (v := u8) hl hn hmn (by rw [I.ok.kind]; rfl) fun h9 u9 hn9 hs9 => ?_)
    have I9 := I8.unbind hN hi hn hlk hn9 hs9
    rw [List.set_set] at I9
    exact kk _ I9
  cases f with
  | next =>
    obtain ⟨σ7, H7, I7, q⟩ := q7
    exact out (R := fun _ _ => True) I7 fun s9 I9 => ⟨_, _, I9, q⟩
  | brk =>
    obtain ⟨σ7, H7, I7, q⟩ := q7
    exact out (R := fun _ _ => True) I7 fun s9 I9 => ⟨_, _, I9, q⟩
  | cont =>
    obtain ⟨σ7, H7, I7, q⟩ := q7
    exact out (R := fun _ _ => True) I7 fun s9 I9 => ⟨_, _, I9, q⟩
  | ret v =>
    obtain ⟨v7, σ7, H7, I7, r7, q⟩ := q7
    exact out (R := fun _ _ => True) I7 fun s9 I9 => ⟨_, _, _, I9, r7, q⟩
end
end L2
set_option Elab.async false
set_option linter.all false
set_option maxRecDepth 100000
set_option maxHeartbeats 1000000
namespace L2
open PySem PySem.Spec PyProof.Rows
section
variable {X : Cx}
theorem call_isinstE : CallR X (.builtin "isinstance") (fun xs H Q => ∃ a C y cv b, xs = [.ref a, y] ∧ H a = some (excHO a (.ref C)) ∧ RelV y cv ∧ PySem.W.ExcK X.K C ∧ (PySem.W.clsIn X.K C).isSome = true ∧ PySem.W.kitOne X.K (.ref C) cv = some b ∧ Q (.bl b) H) := by
  intro pins s σ H xs us Q I r h
  obtain ⟨a, C, y, cv, b, rfl, ha, ry, F0, hcl, e, q⟩ := h
  obtain ⟨u, w', rfl, rx, rt⟩ := vals2 r
  cases rx
  have : cv = w' := by
    cases y with
    | ref p => cases ry; cases rt; rfl
    | ty n => cases ry; cases rt; rfl
    | non => cases ry; cases rt; rfl
    | bl p => cases ry; cases rt; rfl
    | int p =>
      exfalso
      obtain ⟨t, rfl⟩ := ry
      simp [PySem.W.kitOne, PySem.W.kitCls] at e
    | str p =>
      exfalso
      obtain ⟨t, rfl⟩ := ry
      simp [PySem.W.kitOne, PySem.W.kitCls] at e
    | byt p =>
      exfalso
      obtain ⟨t, rfl⟩ := ry
      simp [PySem.W.kitOne, PySem.W.kitCls] at e
    | flt p =>
      exfalso
      obtain ⟨t, rfl⟩ := ry
      simp [PySem.W.kitOne, PySem.W.kitCls] at e
  subst this
  obtain ⟨p, _, _⟩ : (∃ o, s.heap.get? a = some o ∧ o.cls = .ref C) ∧ (∃ o, s.heap.get? a = some o) ∧ _ := I.hok a _ ha
  exact PySem.W.kia_one (PySem.W.kitx_exc F0 hcl) I.kIn p e (fun z => nomatch z) fun tk => ⟨.bl b, H, I.tok _, rfl, q⟩
end
theorem exc_obj {K : PySem.W.Frag} {h : Heap} {C : Addr} {bmB : List Value} {newId : String} (X : K.In h) (q : PySem.W.excIn K C bmB newId = true) :
    ∃ bm N nm q bs hdct sn sub ab col dd k0 k1 k2 k3 k5 mN, h.get? C = some (excClassObj nm q C N bs bm hdct sn sub ab col dd k0 k1 k2 k3 k5 newId) ∧ h.Ns N mN ∧ mN "__init__" = none ∧ OwnTail h bmB bm := by
  unfold PySem.W.excIn at q
  split at q
  · rename_i dd cd sl ho
    split at q
    · rename_i C' bm k0 k1 k2 k3 n k5 hm hs
      simp only [Bool.and_eq_true, beq_iff_eq, Bool.not_eq_true'] at q
      obtain ⟨⟨⟨⟨⟨rfl, rfl⟩, hdel⟩, ht⟩, hok⟩, hni⟩ := q
      obtain ⟨nm, bs, mro, ns, qn, hd, sn, sub, ab, col, del⟩ := cd
      dsimp only at hm hdel hok hni
      subst hm hdel
      have hsl : sl = #[k0, k1, k2, k3, some (.builtin n), k5] := by
        obtain ⟨l⟩ := sl
        simp only at hs
        rw [hs]
      subst hsl
      exact ⟨bm, ns, nm, qn, bs, hd, sn, sub, ab, col, dd, k0, k1, k2, k3, k5, _, X _ _ ho, .of_isNs (PySem.W.isNs_of_in X hok), PySem.W.nsMap_none_of_in X hok hni, PySem.W.tail_of_in X ht⟩
    · cases q
  · cases q
def veTail : List Value := [.type "ValueError", .type "Exception", .type "BaseException", .type "object"]
structure ExcC (K : PySem.W.Frag) (mg : Str → Option Value) (x : Str) (C : Addr) : Prop where
  m : mg x = some (.ref C)
  q : PySem.W.excIn K C veTail "ValueError.__new__" = true
  k : PySem.W.ExcK K C
  c : (PySem.W.clsIn K C).isSome = true
section
variable {X : Cx}
theorem sx_raise {x : Str} {C : Addr} {e : Expr} {es : List Expr} {ta : TA} {np cpos pos : Pos} (ow : OwnFr X) (hc : X.calm = true) (K0 : ExcC X.K X.mg x C) (ha : PA X.nox (e :: es) ta) (hp : plainE e = true := by rfl) (hps : es.all plainE = true := by rfl) (hg : Gl X x := by rfl)
    (hd : (x == ("__debug__" : Str)) = false := by decide) :
    PSX X (.Raise (some (.Call (.Name x np) (e :: es) [] cpos)) none pos) (fun D E σ H => ta σ H fun vs H1 => vs.length ≤ sizeLine ∧ E (.ref C) σ H1) := by
  intro pins s σ H D E I h
  obtain ⟨tl, N, nm, q, bs, hdct, sn, sub, ab, col, dd, k0, k1, k2, k3, k5, mN, hC, hN, hni, T⟩ := exc_obj I.ok.mod.kin K0.q
  refine wpAny_Raise_call_subT (C := C) (nm := nm) (q := q) (N := N) (bs := bs) (bm := tl) (hdct := hdct) (sn := sn) (sub := sub) (ab := ab) (col := col) (dd := dd) (k0 := k0) (k1 := k1) (k2 := k2) (k3 := k3) (k5 := k5)
    PySem.F.excBase_ValueError (mN := mN) (T.hasType PySem.F.excBase_ValueError.hasBase) (I.ok.hd hc) (starAny_plain (es := e :: es) (by rw [List.all_cons, hp, hps]; rfl) _ _) hni (ld_glob I hg K0.m ⟨rfl, ?_⟩ hd)
  have hA := ha.lift cpos pins s σ H (fun vs H1 => vs.length ≤ sizeLine ∧ E (.ref C) σ H1) (XL X pins E) I h
  rw [starEach_plain hp] at hA ⊢
  refine Calls.evalArgs_plain (wpAny_mono hA (fun us s2 ⟨vs, H2, I2, r, z, q2⟩ => ?_) fun _ _ y => y)
  have kp : ∀ b o, X.base.get? b = some o → s2.heap.get? b = some o := I2.bk
  exact ⟨rfl, by rw [← r.length]; exact z, kp _ _ hC, hN.keeps kp, T.keeps kp, fun h' a hx => XL.of_made ow I2 hx q2⟩
end
section
variable {X : Cx} {tg : Expr}
theorem PG.lift {g : TG} {target : Expr} (h : PG X.nox target g) : ∀ (pins : List (Addr × Obj)) (s : Shared) (σ : St) (H : Hp) (v : V) (u : Value) (Q : St → Hp → Prop) (E : Value → Shared → Prop), Inv X pins σ H s → RelV v u → g v σ H Q →
    wpAny (model X.prog X.w) X.A (assign target X.env u) (fun _ s' => ∃ σ' H', Inv X pins σ' H' s' ∧ Q σ' H') E s := fun pins s σ H v u Q E I r hw =>
  wpAny_mono (h pins s σ H v u Q (I.wish _) r hw) (fun _ _ ⟨σ', H', I', q⟩ => ⟨σ', H', I'.unwish, q⟩) fun _ _ z => False.elim z
def tForX (wi : TI) (g : TG) (tb : TSX) : TSX := fun D E σ H => wi σ H fun J H1 => ∃ W : Nat → Nat → St → Hp → Prop, (∃ m, W 0 m σ H1) ∧ ∀ i m σ H, W i m σ H →
  (J.stop i H ∧ D.nx σ H) ∨ (J.go i H ∧ ∃ N : St → Hp → Prop, (∀ σ' H', N σ' H' → ∃ m', m' < m ∧ W (i + 1) m' σ' H') ∧ ∀ x H', J.yld i H x H' → g x σ H' fun σ2 H2 => tb { D with nx := N, ct := N, bk := D.nx } E σ2 H2)
theorem sx_for {iter : Expr} {body : List Stmt} {wi : TI} {g : TG} {tb : TSX} {pos : Pos} (hc : X.calm = true) (hi : PI X.nox tg iter wi) (hg : PG X.nox tg g) (hb : PSsX X body tb)
    (hs : ∀ x, foldedSetIterable iter X.env x = pure x := by intro _; rfl) : PSX X (.For tg iter body [] pos) (tForX wi g tb) := by
  intro pins s σ H D E I h
  have hp : PassesOwn (model X.prog X.w) X.A X.env (XL X pins E) := XL.passes
  refine wpAny_For (wpAny_mono (hi pins s σ H _ (I.wish _) h) (fun v s1 h1 => wpAny_mono h1 (fun itv s2 h2 => ?_) fun _ _ z => False.elim z) fun _ _ z => False.elim z) hs
  obtain ⟨it, fp, tn, J, H2, e, I2', T, st2, f2, W, ⟨m0, w0⟩, turn⟩ := h2
  have I2 : Inv X pins σ H2 s2 := I2'.unwish
  subst e
  have f2' : ∀ b ∈ fp, FpOk X pins H2 b := f2
  have stat : ∀ {H' : Hp}, (∀ b ∈ fp, H' b = none) → ∀ b ∈ fp, FpOk X pins H' b := fun hn b hb => ⟨hn b hb, (f2' b hb).2⟩
  refine codeAny_forLoop_any (fun n s' => ∃ i σ' H', Inv X pins σ' H' s' ∧ tn i s'.heap ∧ (∀ b ∈ fp, H' b = none) ∧ W i n σ' H') ?_ m0 ⟨0, σ, H2, I2, st2, fun b hb => (f2' b hb).1, w0⟩
  rintro n s3 ⟨i, σ3, H3, I3, st3, fr3, w3⟩
  rcases turn i n σ3 H3 w3 with ⟨stop, qn⟩ | ⟨go, N, hN, step⟩
  · refine wpAny_passesOwn hp (thn (T.done X rfl rfl rfl hc i pins s3 σ3 H3 (XL X pins E) I3 (stat fr3) st3 stop) fun r s4 ⟨hr, I4⟩ => ?_)
    subst hr
    exact wpAny_execs_nil ⟨σ3, H3, I4, qn⟩
  · refine wpAny_passesOwn hp (thn (T.item X rfl rfl rfl hc i pins s3 σ3 H3 (XL X pins E) I3 (stat fr3) st3 go) fun r s4 ⟨u, hr, h4⟩ => ?_)
    subst hr
    refine wpAny_passesOwn hp (thn h4 fun _ s5 ⟨x, H5, I5, r5, y5, st5, fr5⟩ => ?_)
    have I5' := I5.pinned (stat fr5) (T.obj _ _ st5)
    refine wpAny_passesOwn hp (thn (hg.lift _ s5 σ3 H5 x u _ (XL X pins E) I5' r5 (step x H5 y5)) fun _ s6 ⟨σ6, H6, I6, q6⟩ => ?_)
    refine wpAny_passesOwn hp (wpAny_mono (hb _ s6 σ6 H6 _ E I6 q6) (fun f s7 q7 => ?_) fun _ _ z => XL.weak z fun _ _ _ q => q)
    have again : ∀ {σ7 : St} {H7 : Hp}, Inv X (pins ++ pinsAt fp s5.heap) σ7 H7 s7 → N σ7 H7 → ∃ m, m < n ∧ ∃ i σ' H', Inv X pins σ' H' s7 ∧ tn i s7.heap ∧ (∀ b ∈ fp, H' b = none) ∧ W i m σ' H' := fun {σ7 H7} I7 n7 => by
      obtain ⟨m', hm, w7⟩ := hN σ7 H7 n7
      refine ⟨m', hm, i + 1, σ7, H7, I7.unpinned, T.keep _ _ _ st5 fun b hb o e => (I7.pin (b, o) (List.mem_append_right _ (List.mem_append_right _ (mem_pinsAt hb e)))).1, fun b hb => ?_, w7⟩
      obtain ⟨o, e, d⟩ := T.obj _ _ st5 b hb
      exact (I7.pin (b, o) (List.mem_append_right _ (List.mem_append_right _ (mem_pinsAt hb e)))).2.1
    cases f with
    | next => obtain ⟨σ7, H7, I7, n7⟩ := q7; exact again I7 n7
    | cont => obtain ⟨σ7, H7, I7, n7⟩ := q7; exact again I7 n7
    | brk => obtain ⟨σ7, H7, I7, q7⟩ := q7; exact ⟨σ7, H7, I7.unpinned, q7⟩
    | ret v => obtain ⟨x7, σ7, H7, I7, r7, q7⟩ := q7; exact ⟨x7, σ7, H7, I7.unpinned, r7, q7⟩
def tWhileX (c : TT) (tb : TSX) : TSX := fun D E σ H => ∃ W : Nat → St → Hp → Prop, (∃ m, W m σ H) ∧ ∀ m σ H, W m σ H →
  c σ H fun b H1 => if b = true then ∃ N : St → Hp → Prop, (∀ σ' H', N σ' H' → ∃ m', m' < m ∧ W m' σ' H') ∧ tb { D with nx := N, ct := N, bk := D.nx } E σ H1 else D.nx σ H1
end
end L2
set_option Elab.async false
set_option linter.all false
set_option maxRecDepth 100000
set_option maxHeartbeats 1000000
namespace L2
open PySem PySem.Spec PyProof.Rows
def idxOf (n : Nat) (lo hi st : Option Int) : List Nat := sliceRange (sliceBounds lo hi st n).1 (sliceBounds lo hi st n).2.1 (sliceBounds lo hi st n).2.2
def cut3 {α : Type} (xs : List α) (lo hi st : Option Int) : List α := (idxOf xs.length lo hi st).filterMap (xs[·]?)
section
variable {X : Cx} {e : Expr} {te : TE} {lo hi : Option Expr} {st : Expr} {tl th ts : TO} {pos p2 : Pos}
def tSl3 (K : PySem.W.Frag) (te : TE) (tl th ts : TO) : TE := fun σ H Q => te σ H fun x H1 => tl σ H1 fun l H2 => th σ H2 fun u H3 => ts σ H3 fun c H4 => ∃ a xs, x = .ref a ∧ SqL K H4 a xs ∧ c ≠ some 0 ∧ ∀ p, H4 p = none → (cut3 xs l u c).length ≤ xs.length → Q (.ref p) (upd H4 p (.lst (cut3 xs l u c)))
end
theorem passN {X : Cx} {P : Program} {w : World} : Passes (CXr P w) X E0 := fun _ _ _ _ _ _ _ h => by
  obtain ⟨_, _, _, _, _, _, _, _, _, _, _, _, _, _, z⟩ := h
  exact z.elim
theorem pe_defN {X : Cx} {x : Str} {st : Stmt} {ps : List Str} {f : Addr} {fd : FuncData} {k : Nat} {sp : Sp} {p pos : Pos} {e : Expr} {es : List Expr} {t : TA} (D : Def X.K X.mg x st ps f fd) (G : FnOk X.prog X.w X.K X.mg X.base (CXr X.prog X.w) k f fd ps sp) (hr : Room k X.A) (ha : PA X (e :: es) t)
    (hp : plainE e = true := by rfl) (hps : es.all plainE = true := by rfl) (hg : Gl X x := by rfl) (hdb : (x == ("__debug__" : Str)) = false := by decide) :
    PE X (.Call (.Name x p) (e :: es) [] pos) (tCall sp [] E0 t) := pe_call G hr hg D.m D.F.kp D.b .nil passN ha hdb (starEach_plain hp _ _) (starAny_plain hps _ _)
def PTX (X : Cx) (e : Expr) (t : St → Hp → (Bool → Hp → Prop) → (Value → Hp → Prop) → Prop) : Prop :=
  ∀ (pins : List (Addr × Obj)) (s : Shared) (σ : St) (H : Hp) (Q : Bool → Hp → Prop) (E : Value → Hp → Prop), Inv X pins σ H s → t σ H Q E → wpAny (model X.prog X.w) X.A (isTrue e X.env (eval e X.env)) (TP X pins σ Q) (XL X pins fun c σ' H' => σ' = σ ∧ E c H') s
section
variable {X : Cx} {e : Expr} {pos : Pos}
def tNotNX (te : St → Hp → VK → (Value → Hp → Prop) → Prop) : St → Hp → (Bool → Hp → Prop) → (Value → Hp → Prop) → Prop := fun σ H Q E => te σ H (fun v H1 => Q (!decide (v = .non)) H1) E
theorem ptx_notN {te : St → Hp → VK → (Value → Hp → Prop) → Prop} {k : Nat} {cp : Pos} (he : PEX X e te) : PTX X (.Compare e [.IsNot] [.Constant .none k cp] pos) (tNotNX te) := by
  intro pins s σ H Q E I h
  refine wpAny_isTrue_Compare1 (wpAny_mono (he pins s σ H _ E I h) (fun v s1 ⟨x, H1, I1, r1, q1⟩ => ?_) fun _ _ z => z)
  have hb : PE X.nox (.Constant .none k cp) (tC .non) := pe_non
  refine wpAny_mono (hb pins s1 σ H1 (fun v H2 => v = .non ∧ Q (!decide (x = .non)) H2) (I1.wish _) ⟨rfl, q1⟩) (fun u s2 ⟨y, H2, I2, r2, ey, q2⟩ => ?_) fun _ _ z => False.elim z
  subst ey
  have ho := op_notN (X := X.nox) pins s2 σ H2 x .non v u (fun b H3 => ∃ c, b = .bl c ∧ Q c H3) I2 r1 r2 ⟨rfl, _, rfl, q2⟩
  refine wpAny_mono ho (fun b s3 ⟨z, H3, I3, r3, c, ez, q3⟩ => ?_) fun _ _ z => False.elim z
  subst ez
  cases r3
  exact wpAny_truthy_bool ⟨H3, I3.unwish, q3⟩
def tIfXX (c : St → Hp → (Bool → Hp → Prop) → (Value → Hp → Prop) → Prop) (t u : TSX) : TSX := fun D E σ H => c σ H (fun b H1 => if b = true then t D E σ H1 else u D E σ H1) fun c H1 => E c σ H1
theorem sx_ifX {c : Expr} {a b : List Stmt} {tc : St → Hp → (Bool → Hp → Prop) → (Value → Hp → Prop) → Prop} {t u : TSX} (hc : PTX X c tc) (ha : PSsX X a t) (hb : PSsX X b u) : PSX X (.If c a b pos) (tIfXX tc t u) := by
  intro pins s σ H D E I h
  refine wpAny_If (wpAny_mono (hc pins s σ H _ _ I h) (fun d s1 ⟨H1, I1, q1⟩ => ?_) fun x s1 z => z.imp fun c σ' H' ⟨a, b⟩ => by rw [a]; exact b)
  cases d with
  | true => rw [if_pos rfl] at q1 ⊢; exact ha pins s1 σ H1 D E I1 q1
  | false => rw [if_neg (by decide)] at q1 ⊢; exact hb pins s1 σ H1 D E I1 q1
end
theorem call_isinstH {X : Cx} {ev : Value} : CallR (X.hand ev) (.builtin "isinstance") (fun xs H Q => ∃ a C y cv b, xs = [.ref a, y] ∧ H a = some (excHO a (.ref C)) ∧ RelV y cv ∧ PySem.W.ExcK X.K C ∧ (PySem.W.clsIn X.K C).isSome = true ∧ PySem.W.kitOne X.K (.ref C) cv = some b ∧ Q (.bl b) H) := call_isinstE (X := X.hand ev)
section
variable {σ : St} {H : Hp} {Q : VK} {D : Ends} {E : XE} {K : PySem.W.Frag}
theorem rd_seqX {t u : TSX} (q : t { D with nx := u D E } E σ H) : tSeqX t u D E σ H := q
theorem rd_lift {t : TS} (q : t D σ H) : tLift t D E σ H := q
theorem rd_nextX (q : D.nx σ H) : tNextX D E σ H := q
theorem rd_ifX {c : TT} {t u : TSX} (q : c σ H fun b H1 => if b = true then t D E σ H1 else u D E σ H1) : tIfX c t u D E σ H := q
theorem rd_callX {sp : Sp} {ta : TA} {E : Value → Hp → Prop} (q : ta σ H fun vs H1 => sp vs H1 Q fun c _ H' => E c H') : tCallX sp ta σ H Q E := q
theorem rd_ifXX {c : St → Hp → (Bool → Hp → Prop) → (Value → Hp → Prop) → Prop} {t u : TSX} (q : c σ H (fun b H1 => if b = true then t D E σ H1 else u D E σ H1) fun c H1 => E c σ H1) : tIfXX c t u D E σ H := q
theorem rd_notNX {te : St → Hp → VK → (Value → Hp → Prop) → Prop} {Q : Bool → Hp → Prop} {E : Value → Hp → Prop} (q : te σ H (fun v H1 => Q (!decide (v = .non)) H1) E) : tNotNX te σ H Q E := q
theorem rd_try {D0 : Addr} {i : Nat} {tb : TSX} {th : TS} (q : tb D (fun c σ' H' => PySem.W.exmOne K c (.ref D0) = some true ∧ ∀ a, H' a = none →
    th { nx := fun σ2 H2 => D.nx (σ2.set i none) H2, rt := D.rt, bk := fun σ2 H2 => D.bk (σ2.set i none) H2, ct := fun σ2 H2 => D.ct (σ2.set i none) H2 } (σ'.set i (some (.ref a))) (upd H' a (excHO a c))) σ H) : tTry K D0 i tb th D E σ H := q
end
end L2
set_option linter.all false
set_option maxRecDepth 100000
namespace L2
open PySem PySem.Spec
section
variable {σ : St} {H : Hp} {Q : VK} {D : Ends} {K : PySem.W.Frag}
theorem rd_var {i : Nat} {v : V} (h : σ[i]? = some (some v)) (q : Q v H) : tVar i σ H Q := ⟨v, h, q⟩
theorem rd_c {v : V} (q : Q v H) : tC v σ H Q := q
theorem rd_op {r : R2} {ta tb : TE} (q : ta σ H fun x H1 => tb σ H1 fun y H2 => r x y H2 Q) : tOp r ta tb σ H Q := q
theorem rd_un {r : V → Hp → VK → Prop} {ta : TE} (q : ta σ H fun x H1 => r x H1 Q) : tUn r ta σ H Q := q
theorem rd_i0 {g : Int → Int → V} {i j : Int} (q : Q (g i j) H) : rI0 g (.int i) (.int j) H Q := ⟨i, j, rfl, rfl, q⟩
theorem rd_i {C : Int → Int → Prop} {g : Int → Int → V} {i j : Int} (c : C i j) (q : Q (g i j) H) : rI C g (.int i) (.int j) H Q := ⟨i, j, rfl, rfl, c, q⟩
theorem rd_u {g : Int → V} {i : Int} (q : Q (g i) H) : rU g (.int i) H Q := ⟨i, rfl, q⟩
theorem rd_eqI {i j : Int} (q : Q (.bl (decide (i = j))) H) : rEq (.int i) (.int j) H Q := ⟨rfl, by rw [show decide (V.int i = V.int j) = decide (i = j) by rw [dec_int]; by_cases h : i = j <;> simp [h]]; exact q⟩
theorem rd_neI {i j : Int} (q : Q (.bl (!decide (i = j))) H) : rNe (.int i) (.int j) H Q := ⟨rfl, by rw [show decide (V.int i = V.int j) = decide (i = j) by rw [dec_int]; by_cases h : i = j <;> simp [h]]; exact q⟩
theorem rd_nn {P : Prop} (q : P) : V.non = V.non ∧ P := ⟨rfl, q⟩
theorem rd_test {t : TE} {Q : Bool → Hp → Prop} (q : t σ H fun x H' => ∃ k, x = .bl k ∧ Q k H') : tTest t σ H Q := q
theorem rd_tB {t : TE} {Q : Bool → Hp → Prop} (q : t σ H fun x H' => ∃ k, x = .bl k ∧ Q k H') : tB t σ H Q := q
theorem rd_ex {k : Bool} {P : Bool → Prop} (q : P k) : ∃ k', V.bl k = .bl k' ∧ P k' := ⟨k, rfl, q⟩
theorem rd_next (q : D.nx σ H) : tNext D σ H := q
theorem rd_seq {t u : TS} (q : t { D with nx := u D } σ H) : tSeq t u D σ H := q
theorem rd_drop {te : TE} (q : te σ H fun _ H1 => D.nx σ H1) : tDrop te D σ H := q
theorem rd_ret {te : TE} (q : te σ H D.rt) : tRet te D σ H := q
theorem rd_if {c : TT} {t u : TS} (q : c σ H fun b H1 => if b = true then t D σ H1 else u D σ H1) : tIfS c t u D σ H := q
theorem rd_asg {te : TE} {g : TG} (q : te σ H fun x H1 => g x σ H1 D.nx) : tAsg te g D σ H := q
theorem rd_gname {i : Nat} {v : V} {Q : St → Hp → Prop} (q : Q (σ.set i (some v)) H) : gName i v σ H Q := q
theorem rd_gsub {to ti : TE} {t : TSet} {v : V} {Q : St → Hp → Prop} (q : to σ H fun o H1 => ti σ H1 fun i H2 => t o i v H2 fun H3 => Q σ H3) : gSub to ti t v σ H Q := q
theorem rd_nil {Q : List V → Hp → Prop} (q : Q [] H) : tNil σ H Q := q
theorem rd_cons {ta : TE} {tr : TA} {Q : List V → Hp → Prop} (q : ta σ H fun x H1 => tr σ H1 fun xs H2 => Q (x :: xs) H2) : tCons ta tr σ H Q := q
theorem rd_call {sp : Sp} {E : XK} {t : TA} (q : t σ H fun vs H1 => sp vs H1 Q E) : tCall sp [] E t σ H Q := by
  unfold tCall
  have e : ∀ vs : List V, vs ++ [] = vs := fun vs => List.append_nil vs
  simp only [e]
  exact q
theorem rd_cb {r : List V → Hp → VK → Prop} {t : TA} (q : t σ H fun vs H1 => r vs H1 Q) : tCB r t σ H Q := q
theorem rd_andV {ta tb : TE} (q : ta σ H fun x H1 => ∃ c, x = .bl c ∧ if c = true then tb σ H1 Q else Q (.bl false) H1) : tAndV ta tb σ H Q := q
theorem rd_orV {ta tb : TE} (q : ta σ H fun x H1 => ∃ c, x = .bl c ∧ if c = true then Q (.bl true) H1 else tb σ H1 Q) : tOrV ta tb σ H Q := q
theorem rd_notV {ta : TE} (q : ta σ H fun x H1 => ∃ c, x = .bl c ∧ Q (.bl (!c)) H1) : tNotV ta σ H Q := q
theorem rd_and {t u : TT} {Q : Bool → Hp → Prop} (q : t σ H fun c H1 => if c = true then u σ H1 Q else Q false H1) : tAnd t u σ H Q := q
theorem rd_or {t u : TT} {Q : Bool → Hp → Prop} (q : t σ H fun c H1 => if c = true then Q true H1 else u σ H1 Q) : tOr t u σ H Q := q
theorem rd_not {t : TT} {Q : Bool → Hp → Prop} (q : t σ H fun c H1 => Q (!c) H1) : tNot t σ H Q := q
theorem rd_tIf {t : TT} {ta tb : TE} (q : t σ H fun c H1 => if c = true then ta σ H1 Q else tb σ H1 Q) : tIf t ta tb σ H Q := q
theorem rd_lst {t : TA} (q : t σ H fun xs H1 => xs.length ≤ sizeLine ∧ ∀ p, H1 p = none → Q (.ref p) (upd H1 p (.lst xs))) : tLst t σ H Q := q
theorem rd_tup {t : TA} (q : t σ H fun xs H1 => xs.length ≤ sizeLine ∧ ∀ p, H1 p = none → Q (.ref p) (upd H1 p (.tup xs))) : tTup t σ H Q := q
theorem rd_ixL {p : Addr} {xs : List V} {i : Int} {v : V} (h : SqL K H p xs) (a : atI xs i = some v) (q : Q v H) : rIxL K (.ref p) (.int i) H Q := ⟨p, xs, i, v, rfl, rfl, h, a, q⟩
theorem rd_setL {p : Addr} {xs : List V} {k : Int} {j : Nat} {v : V} {Q : Hp → Prop} (h : H p = some (.lst xs)) (a : ixN xs.length k = some j) (q : Q (upd H p (.lst (xs.set j v)))) : rSetL (.ref p) (.int k) v H Q := ⟨p, xs, k, j, rfl, rfl, h, a, q⟩
theorem rd_aug {i : Nat} {te : TE} {ti : TIp} {x : V} (h : σ[i]? = some (some x)) (q : te σ H fun y H1 => ti x y H1 fun z H2 => D.nx (σ.set i (some z)) H2) : tAug i te ti D σ H := ⟨x, h, q⟩
theorem rd_ip {f : Int → Int → Int} {i j : Int} (q : Q (.int (f i j)) H) : ipI f (.int i) (.int j) H Q := ⟨i, j, rfl, rfl, q⟩
theorem rd_chain {r r' : R2} {ta tb tc : TE} (q : ta σ H fun x H1 => tb σ H1 fun y H2 => r x y H2 fun z H3 => ∃ k, z = .bl k ∧ (if k = true then tc σ H3 fun w' H4 => r' y w' H4 Q else Q (.bl false) H3)) : tChain r r' ta tb tc σ H Q := q
theorem rd_iList {tl : TE} {R : It → Hp → Prop} (q : tl σ H fun x H1 => ∃ a, x = .ref a ∧ (∃ xs, SqL K H1 a xs) ∧ R (Itl K a) H1) : iList K tl σ H R := q
theorem rd_iRng1 {ta : TA} {R : It → Hp → Prop} (q : ta σ H fun vs H1 => ∃ j : Int, vs = [.int j] ∧ -(2 ^ 62) ≤ j ∧ j < 2 ^ 62 ∧ R (Itr 0 j.toNat) H1) : iRng1 ta σ H R := q
theorem rd_exR {j : Int} {P : Int → Prop} (h1 : -(2 ^ 62) ≤ j) (h2 : j < 2 ^ 62) (q : P j) : ∃ j' : Int, [V.int j] = [.int j'] ∧ -(2 ^ 62) ≤ j' ∧ j' < 2 ^ 62 ∧ P j' := ⟨j, rfl, h1, h2, q⟩
theorem rd_for {wi : TI} {g : TG} {tb : TS} (q : wi σ H fun J H1 => ∃ W : Nat → Nat → St → Hp → Prop, (∃ m, W 0 m σ H1) ∧ ∀ i m σ H, W i m σ H →
  (J.stop i H ∧ D.nx σ H) ∨ (J.go i H ∧ ∃ N : St → Hp → Prop, (∀ σ' H', N σ' H' → ∃ m', m' < m ∧ W (i + 1) m' σ' H') ∧ ∀ x H', J.yld i H x H' → g x σ H' fun σ2 H2 => tb { D with nx := N, ct := N, bk := D.nx } σ2 H2)) : tFor wi g tb D σ H := q
theorem rd_tyL {l : Addr} {xs : List V} {T : String} (hT : T = "list") (h : SqL K H l xs) : tyV K T (.ref l) H := .inl ⟨hT, _, h⟩
theorem rd_bm {T : String} {r : V → List V → Hp → VK → Prop} {to : TE} {t : TA} (q : to σ H fun x H1 => tyV K T x H1 ∧ t σ H1 fun xs H2 => r x xs H2 Q) : tBM K T r to t σ H Q := q
theorem rd_bm0 {T : String} {r : V → List V → Hp → VK → Prop} {to : TE} (q : to σ H fun x H1 => tyV K T x H1 ∧ r x [] H1 Q) : tBM0 K T r to σ H Q := q
theorem rd_rep {l : Addr} {k : Int} {xs : List V} (h : H l = some (.lst xs)) (h1 : -(2 ^ 63) ≤ k) (h2 : k < 2 ^ 63) (h3 : xs.length * k.toNat ≤ sizeLine) (q : ∀ p, H p = none → Q (.ref p) (upd H p (.lst (List.replicate k.toNat xs).flatten))) : rRep (.ref l) (.int k) H Q := ⟨l, k, xs, rfl, rfl, h, h1, h2, h3, q⟩
theorem rd_cat {l b : Addr} {xs zs : List V} (h : H l = some (.lst xs)) (h1 : H b = some (.lst zs)) (h3 : xs.length + zs.length ≤ sizeLine) (q : ∀ p, H p = none → Q (.ref p) (upd H p (.lst (xs ++ zs)))) : rCat (.ref l) (.ref b) H Q := ⟨l, b, xs, zs, rfl, rfl, h, h1, h3, q⟩
theorem rd_join {t : TS} (M : St → Hp → Prop) (h : t { D with nx := M } σ H) (q : ∀ σ' H', M σ' H' → D.nx σ' H') : tJ t D σ H := ⟨M, h, q⟩
theorem rd_in {x : V} {p : Addr} {xs : List V} (h : SqL K H p xs) (fx : flatV x = true) (fs : xs.all flatV = true) (q : Q (.bl (inV x xs)) H) : rIn K false x (.ref p) H Q := ⟨p, xs, rfl, .inl h, fx, fs, q⟩
theorem rd_notIn {x : V} {p : Addr} {xs : List V} (h : SqL K H p xs) (fx : flatV x = true) (fs : xs.all flatV = true) (q : Q (.bl (!inV x xs)) H) : rIn K true x (.ref p) H Q := ⟨p, xs, rfl, .inl h, fx, fs, q⟩
theorem rd_comp {own : Nat} {fr : List Nat} {wi : TI} {g : TG} {tt : TT} {te : TE} (q : wi σ H fun J H1 => ∀ l, H1 l = none →
  ∃ W : Nat → Nat → List V → St → Hp → Prop, (∃ m, W 0 m [] (blkσ own fr σ) (upd H1 l (.lst []))) ∧ ∀ i m ys σ H, W i m ys σ H →
    (J.stop i H ∧ Q (.ref l) H) ∨ (J.go i H ∧ ∀ x H', J.yld i H x H' → g x σ H' fun σ2 H2 => tt σ2 H2 fun b H3 =>
      if b = true then te σ2 H3 fun v H4 => H4 l = some (.lst ys) ∧ ys.length < sizeLine ∧ ∃ m', m' < m ∧ W (i + 1) m' (ys ++ [v]) σ2 (upd H4 l (.lst (ys ++ [v])))
      else ∃ m', m' < m ∧ W (i + 1) m' ys σ2 H3)) : tComp own fr wi g tt te σ H Q := q
theorem rd_yes {Q : Bool → Hp → Prop} (q : Q true H) : tYes σ H Q := q
theorem rd_iTup {tl : TE} {R : It → Hp → Prop} (q : tl σ H fun x H1 => ∃ a, x = .ref a ∧ (∃ xs, SqT K H1 a xs) ∧ R (Itt K a) H1) : iTup K tl σ H R := q
end
end L2
local macro_rules | `(tactic| tm_at "rd1") => `(tactic| first
  | ((with_reducible refine L2.rd_seq ?_))
  | ((with_reducible refine L2.rd_var (v := ?v) ?h ?q); (case h => rfl))
  | ((with_reducible refine L2.rd_c ?_))
  | ((with_reducible refine L2.rd_asg ?_))
  | ((with_reducible refine L2.rd_gname ?_))
  | ((with_reducible refine L2.rd_op ?_))
  | ((with_reducible refine L2.rd_i0 ?_))
  | ((with_reducible refine L2.rd_cons ?_))
  | ((with_reducible refine L2.rd_nil ?_))
  | ((with_reducible refine L2.rd_call ?_))
  | ((with_reducible refine L2.rd_cb ?_))
  | ((with_reducible refine L2.rd_if ?_))
  | ((with_reducible refine L2.rd_test ?_))
  | ((with_reducible refine L2.rd_tB ?_))
  | ((with_reducible refine L2.rd_ex ?_))
  | ((with_reducible refine L2.rd_eqI ?_))
  | ((with_reducible refine L2.rd_neI ?_))
  | ((with_reducible refine L2.rd_eqB ?_))
  | ((with_reducible refine L2.rd_neB ?_))
  | ((with_reducible refine L2.rd_un ?_))
  | ((with_reducible refine L2.rd_u ?_))
  | ((with_reducible refine L2.rd_ret ?_))
  | ((with_reducible refine L2.rd_retN ?_))
  | ((with_reducible refine L2.rd_drop ?_))
  | ((with_reducible refine L2.rd_next ?_))
  | ((with_reducible refine L2.rd_gsub ?_))
  | ((with_reducible refine L2.rd_gcons ?_))
  | ((with_reducible refine L2.rd_gnil ?_))
  | ((with_reducible refine L2.rd_andV ?_))
  | ((with_reducible refine L2.rd_orV ?_))
  | ((with_reducible refine L2.rd_notV ?_))
  | ((with_reducible refine L2.rd_and ?_))
  | ((with_reducible refine L2.rd_or ?_))
  | ((with_reducible refine L2.rd_not ?_))
  | ((with_reducible refine L2.rd_tIf ?_))
  | ((with_reducible refine L2.rd_lst ?_))
  | ((with_reducible refine L2.rd_tup ?_))
  | ((with_reducible refine L2.rd_chain ?_))
  | ((with_reducible refine L2.rd_sl ?_))
  | ((with_reducible refine L2.rd_nopart ?_))
  | ((with_reducible refine L2.rd_part ?_))
  | ((with_reducible refine L2.rd_exI ?_))
  | ((with_reducible refine L2.rd_iList ?_))
  | ((with_reducible refine L2.rd_iRng1 ?_))
  | ((with_reducible refine L2.rd_for ?_))
  | ((with_reducible refine L2.rd_bm ?_))
  | ((with_reducible refine L2.rd_bm0 ?_))
  | ((with_reducible refine L2.rd_ip ?_))
  | ((with_reducible refine L2.rd_aug (x := ?v) ?h ?q); (case h => rfl))
  | ((with_reducible refine L2.rd_nn ?_))
  | ((with_reducible refine L2.rd_iTup ?_))
  | ((with_reducible refine L2.rd_dni ?_))
  | ((with_reducible refine L2.rd_din ?_))
  | ((with_reducible refine L2.rd_dput ?_))
  | ((with_reducible refine L2.rd_dget ?_))
  | ((with_reducible refine L2.rd_comp ?_))
  | ((with_reducible refine L2.rd_yes ?_))
  | ((with_reducible refine L2.rd_iEnum ?_))
  | ((with_reducible refine L2.rd_iZip ?_))
  | ((with_reducible refine L2.rd_maxD ?_))
  | ((with_reducible refine L2.rd_i ?_ ?_); (· (first | assumption | exact ⟨by decide, by decide⟩ | exact ⟨by decide, by decide, by decide⟩ | exact Or.inl ⟨by decide, by decide⟩ | exact Or.inr ⟨by decide, by decide⟩ | (show (0 : Int) < _; first | decide | omega)))))
local macro_rules | `(tactic| tm_at "rd") => `(tactic| repeat tm_at "rd1")
set_option linter.all false
namespace Ring
def dist (n a p : Nat) : Nat := if a ≤ p then p - a else p + n - a
def nxt (n p : Nat) : Nat := if p + 1 < n then p + 1 else 0
def prv (n p : Nat) : Nat := if p = 0 then n - 1 else p - 1
def back (n p j : Nat) : Nat := if j ≤ p then p - j else p + n - j
abbrev Seats := List (Option Int)
def sat (s : Seats) (p : Nat) : Option Int := s.getD p none
def Ahead (n : Nat) (h : Int → Nat) (x y : Int) (p : Nat) : Prop :=
  dist n (h y) p < dist n (h x) p ∨ (dist n (h x) p = dist n (h y) p ∧ x < y)
instance (n : Nat) (h : Int → Nat) (x y : Int) (p : Nat) : Decidable (Ahead n h x y p) := by unfold Ahead; infer_instance
section
variable {n : Nat} {h : Int → Nat} {x y z : Int} {p q e j i : Nat} {a b : Nat}
theorem dist_lt (ha : a < n) (hp : p < n) : dist n a p < n := by unfold dist; split <;> omega
theorem dist_self : dist n a a = 0 := by unfold dist; rw [if_pos (Nat.le_refl _)]; omega
theorem dist_zero (ha : a < n) (hp : p < n) (e : dist n a p = 0) : a = p := by unfold dist at e; split at e <;> omega
theorem dist_inj (ha : a < n) (hp : p < n) (hq : q < n) (e : dist n a p = dist n a q) : p = q := by
  unfold dist at e; split at e <;> split at e <;> omega
theorem nxt_lt (hp : p < n) : nxt n p < n := by unfold nxt; split <;> omega
theorem prv_lt (hp : p < n) : prv n p < n := by unfold prv; split <;> omega
theorem prv_nxt (hp : p < n) : prv n (nxt n p) = p := by unfold prv nxt; split <;> split <;> omega
theorem nxt_prv (hp : p < n) : nxt n (prv n p) = p := by unfold prv nxt; split <;> split <;> omega
theorem dist_nxt (ha : a < n) (hp : p < n) (hne : nxt n p ≠ a) : dist n a (nxt n p) = dist n a p + 1 := by
  unfold dist nxt at *; split at hne <;> (repeat' split) <;> omega
theorem dist_nxt' (ha : a < n) (hp : p < n) (hl : dist n a p + 1 < n) : dist n a (nxt n p) = dist n a p + 1 := by
  apply dist_nxt ha hp
  intro e
  unfold dist at hl; unfold nxt at e
  split at e <;> split at hl <;> omega
theorem dist_prv (ha : a < n) (hp : p < n) (hne : p ≠ a) : dist n a p = dist n a (prv n p) + 1 := by
  unfold dist prv; split <;> split <;> split <;> omega
theorem dist_to_nxt (hp : p < n) (he : e < n) (hne : p ≠ e) : dist n p e = dist n (nxt n p) e + 1 := by
  unfold dist nxt; split <;> split <;> split <;> omega
theorem back_one (hp : p < n) : back n p 1 = prv n p := by unfold back prv; split <;> split <;> omega
theorem back_back (hp : p < n) (hi : i + j < n) : back n (back n p j) i = back n p (j + i) := by
  unfold back; split <;> split <;> split <;> omega
theorem dist_back (ha : a < n) (hp : p < n) (hj : j ≤ dist n a p) : dist n a (back n p j) = dist n a p - j := by
  unfold back dist at *; split at hj <;> split <;> split <;> omega
theorem back_of (ha : a < n) (hp : p < n) (hq : q < n) (hl : dist n a q ≤ dist n a p) : back n p (dist n a p - dist n a q) = q := by
  unfold back dist at *; split at hl <;> split at hl <;> (repeat' split) <;> omega
theorem ahead_irrefl : ¬ Ahead n h x x p := by unfold Ahead; omega
theorem ahead_trans (u : Ahead n h x y p) (v : Ahead n h y z p) : Ahead n h x z p := by unfold Ahead at *; omega
theorem ahead_total (d : x ≠ y) : Ahead n h x y p ∨ Ahead n h y x p := by unfold Ahead; omega
theorem ahead_ne (u : Ahead n h x y p) : x ≠ y := by rintro rfl; exact ahead_irrefl u
theorem ahead_le (u : Ahead n h x y p) : dist n (h y) p ≤ dist n (h x) p := by unfold Ahead at u; omega
variable (hh : ∀ g, h g < n)
include hh
theorem ahead_back (hp : p < n) (u : Ahead n h x y p) (hj : j ≤ dist n (h y) p) : Ahead n h x y (back n p j) := by
  have := ahead_le u
  unfold Ahead at *
  rw [dist_back (hh x) hp (by omega), dist_back (hh y) hp hj]
  omega
end
def Loc (n : Nat) (h : Int → Nat) (f : Nat → Option Int) : Prop :=
  ∀ p g, p < n → f p = some g → h g ≠ p → ∃ g', f (prv n p) = some g' ∧ Ahead n h g' g (prv n p)
def Glo (n : Nat) (h : Int → Nat) (f : Nat → Option Int) : Prop :=
  ∀ p g, p < n → f p = some g → ∀ j, 1 ≤ j → j ≤ dist n (h g) p → ∃ g', f (back n p j) = some g' ∧ Ahead n h g' g (back n p j)
theorem glo_of_loc {n : Nat} {h : Int → Nat} {f : Nat → Option Int} (hh : ∀ g, h g < n) (L : Loc n h f) : Glo n h f := by
  have all : ∀ j p g, p < n → f p = some g → j + 1 ≤ dist n (h g) p → ∃ g', f (back n p (j + 1)) = some g' ∧ Ahead n h g' g (back n p (j + 1)) := by
    intro j
    induction j with
    | zero =>
      intro p g hp hg hd
      rw [show (0 + 1) = 1 from rfl, back_one hp]
      refine L p g hp hg fun e => ?_
      rw [e, dist_self] at hd; omega
    | succ j ih =>
      intro p g hp hg hd
      have hne : h g ≠ p := fun e => by rw [e, dist_self] at hd; omega
      obtain ⟨g1, h1, a1⟩ := L p g hp hg hne
      have hq := prv_lt hp
      have d1 := dist_prv (hh g) hp (Ne.symm hne)
      have le1 := ahead_le a1
      obtain ⟨g2, h2, a2⟩ := ih (prv n p) g1 hq h1 (by omega)
      have lt1 := dist_lt (hh g1) hq
      have eb : back n (prv n p) (j + 1) = back n p (j + 1 + 1) := by
        rw [← back_one hp, back_back hp (by have := dist_lt (hh g) hp; omega)]
        congr 1; omega
      rw [eb] at h2 a2
      refine ⟨g2, h2, ahead_trans a2 ?_⟩
      rw [← eb]
      exact ahead_back hh hq a1 (by omega)
  intro p g hp hg j h1 hj
  obtain ⟨i, rfl⟩ : ∃ i, j = i + 1 := ⟨j - 1, by omega⟩
  exact all i p g hp hg hj
section
variable {n : Nat} {h : Int → Nat} {A B : Nat → Option Int}
theorem once (hh : ∀ g, h g < n) (L : Loc n h A) {p q : Nat} {g : Int} (hp : p < n) (hq : q < n) (h1 : A p = some g) (h2 : A q = some g) : p = q := by
  have G := glo_of_loc hh L
  rcases Nat.lt_trichotomy (dist n (h g) p) (dist n (h g) q) with l | l | l
  · obtain ⟨b, hb, u⟩ := G q g hq h2 (dist n (h g) q - dist n (h g) p) (by omega) (by omega)
    rw [back_of (hh g) hq hp (by omega), h1] at hb
    cases hb
    exact absurd u ahead_irrefl
  · exact dist_inj (hh g) hp hq l
  · obtain ⟨b, hb, u⟩ := G p g hp h1 (dist n (h g) p - dist n (h g) q) (by omega) (by omega)
    rw [back_of (hh g) hp hq (by omega), h2] at hb
    cases hb
    exact absurd u ahead_irrefl
end
def who (s : Seats) : List Int := s.filterMap id
theorem fm_some (g : Int) (r : Seats) : List.filterMap id (some g :: r) = g :: List.filterMap id r := rfl
theorem fm_none (r : Seats) : List.filterMap id (none :: r) = List.filterMap id r := rfl
section
variable {n : Nat} {h : Int → Nat} {s : Seats} {p q : Nat} {v : Option Int} {x y : Int}
theorem sat_set (hp : p < s.length) : sat (s.set p v) q = if q = p then v else sat s q := by
  unfold sat
  by_cases e : q = p
  · subst e
    rw [if_pos rfl]
    simp [List.getD, hp]
  · rw [if_neg e]
    simp [List.getD, List.getElem?_set_ne (Ne.symm e)]
theorem sat_same (hp : p < s.length) : sat (s.set p v) p = v := by rw [sat_set hp, if_pos rfl]
theorem sat_ne (hp : p < s.length) (e : q ≠ p) : sat (s.set p v) q = sat s q := by rw [sat_set hp, if_neg e]
theorem sat_get (hp : p < s.length) : s[p]? = some (sat s p) := by
  unfold sat; simp [List.getD, hp]
theorem sat_get' (hp : p < s.length) : s[p] = sat s p := by
  unfold sat; simp [List.getD, hp]
theorem cut_at (hp : p < s.length) : s = s.take p ++ sat s p :: s.drop (p + 1) := by
  rw [← sat_get' hp, List.getElem_cons_drop, List.take_append_drop]
theorem cut_set (hp : p < s.length) : s.set p v = s.take p ++ v :: s.drop (p + 1) := List.set_eq_take_append_cons_drop ▸ by rw [if_pos hp]
theorem who_none (hp : p < s.length) (e : sat s p = none) : List.Perm (who (s.set p (some x))) (x :: who s) := by
  have e1 : who s = who (s.take p) ++ who (s.drop (p + 1)) := by
    conv => lhs; rw [cut_at hp, e]
    unfold who; rw [List.filterMap_append, fm_none]
  have e2 : who (s.set p (some x)) = who (s.take p) ++ x :: who (s.drop (p + 1)) := by
    rw [cut_set hp]
    unfold who; rw [List.filterMap_append, fm_some]
  rw [e1, e2]
  exact List.perm_middle
theorem who_some (hp : p < s.length) (e : sat s p = some y) : ∃ r, List.Perm (who s) (y :: r) ∧ List.Perm (who (s.set p (some x))) (x :: r) ∧ who (s.set p none) = r := by
  refine ⟨who (s.take p) ++ who (s.drop (p + 1)), ?_, ?_, ?_⟩
  · have : who s = who (s.take p) ++ y :: who (s.drop (p + 1)) := by
      conv => lhs; rw [cut_at hp, e]
      unfold who; rw [List.filterMap_append, fm_some]
    rw [this]; exact List.perm_middle
  · have : who (s.set p (some x)) = who (s.take p) ++ x :: who (s.drop (p + 1)) := by
      rw [cut_set hp]
      unfold who; rw [List.filterMap_append, fm_some]
    rw [this]; exact List.perm_middle
  · rw [cut_set hp]
    unfold who; rw [List.filterMap_append, fm_none]
theorem mem_who {g : Int} : g ∈ who s ↔ ∃ p, p < s.length ∧ sat s p = some g := by
  unfold who
  rw [List.mem_filterMap]
  constructor
  · rintro ⟨o, ho, e⟩
    obtain ⟨i, hi, rfl⟩ := List.getElem_of_mem ho
    exact ⟨i, hi, by rw [← sat_get' hi]; exact e⟩
  · rintro ⟨p, hp, e⟩
    refine ⟨s[p], List.getElem_mem hp, ?_⟩
    rw [sat_get' hp, e]; rfl
theorem sat_rep {m : Nat} : sat (List.replicate m none) p = none := by
  unfold sat
  rw [List.getD]
  cases e : (List.replicate m (none : Option Int))[p]? with
  | none => rfl
  | some u =>
    have := List.getElem?_replicate (n := m) (a := (none : Option Int)) (i := p)
    rw [e] at this
    split at this
    · cases this; rfl
    · cases this
theorem who_rep {m : Nat} : who (List.replicate m none) = [] := by
  unfold who
  induction m with
  | zero => rfl
  | succ m ih => rw [List.replicate_succ, fm_none, ih]
theorem loc_rep {m : Nat} : Loc n h (sat (List.replicate m none)) := by
  intro p g hp hg
  rw [sat_rep] at hg; cases hg
theorem who_len (s : Seats) : (who s).length + s.count none = s.length := by
  unfold who
  induction s with
  | nil => rfl
  | cons o r ih =>
    cases o with
    | none => rw [fm_none, List.count_cons_self, List.length_cons]; omega
    | some g => rw [fm_some, List.count_cons_of_ne (by simp), List.length_cons, List.length_cons]; omega
theorem empty_of (hl : (who s).length < s.length) : ∃ e, e < s.length ∧ sat s e = none := by
  have := who_len s
  have hc : 0 < s.count none := by omega
  have hm : none ∈ s := List.count_pos_iff.mp hc
  obtain ⟨i, hi, e⟩ := List.getElem_of_mem hm
  exact ⟨i, hi, by rw [← sat_get' hi]; exact e⟩
theorem of_empty (he : ∃ e, e < s.length ∧ sat s e = none) : (who s).length < s.length := by
  obtain ⟨e, he, hn⟩ := he
  have := who_len s
  have hm : none ∈ s := by rw [← hn, ← sat_get' he]; exact List.getElem_mem he
  have : 0 < s.count none := List.count_pos_iff.mpr hm
  omega
end
def put (n : Nat) (h : Int → Nat) : Nat → Seats → Int → Nat → Seats
  | 0, s, _, _ => s
  | k + 1, s, x, p =>
    match sat s p with
    | none => s.set p (some x)
    | some y => if Ahead n h x y p then put n h k (s.set p (some x)) y (nxt n p) else put n h k s x (nxt n p)
def Arr (n : Nat) (h : Int → Nat) (s : Seats) (x : Int) (p : Nat) : Prop := h x = p ∨ ∃ g', sat s (prv n p) = some g' ∧ Ahead n h g' x (prv n p)
section
variable {n : Nat} {h : Int → Nat}
theorem prv_ne {p : Nat} (h2 : 2 ≤ n) (hp : p < n) : prv n p ≠ p := by unfold prv; split <;> omega
theorem loc_put (h2 : 2 ≤ n) {s : Seats} {x : Int} {p : Nat} (hl : s.length = n) (L : Loc n h (sat s)) (hp : p < n) (ar : Arr n h s x p)
    (ok : ∀ y, sat s p = some y → Ahead n h x y p) : Loc n h (sat (s.set p (some x))) := by
  intro q g hq hg hne
  have hps : p < s.length := by omega
  by_cases e : q = p
  · subst e
    rw [sat_same hps] at hg
    cases hg
    rcases ar with z | ⟨g', e', u⟩
    · exact absurd z hne
    · exact ⟨g', by rw [sat_ne hps (prv_ne h2 hq)]; exact e', u⟩
  · rw [sat_ne hps e] at hg
    obtain ⟨g', e', u⟩ := L q g hq hg hne
    by_cases e2 : prv n q = p
    · rw [e2] at e' u ⊢
      exact ⟨x, sat_same hps, ahead_trans (ok g' e') u⟩
    · exact ⟨g', by rw [sat_ne hps e2]; exact e', u⟩
theorem put_ok (h2 : 2 ≤ n) (hh : ∀ g, h g < n) : ∀ (k : Nat) (s : Seats) (x : Int) (p e : Nat), s.length = n → Loc n h (sat s) → x ∉ who s → (who s).Nodup → p < n → e < n → sat s e = none →
    dist n (h x) p + dist n p e < n → Arr n h s x p → dist n p e < k →
    (put n h k s x p).length = n ∧ Loc n h (sat (put n h k s x p)) ∧ List.Perm (who (put n h k s x p)) (x :: who s) := by
  intro k
  induction k with
  | zero => intro s x p e _ _ _ _ _ _ _ _ _ hk; omega
  | succ k ih =>
    intro s x p e hl L hx nd hp he hn hd ar hk
    have hps : p < s.length := by omega
    unfold put
    cases hy : sat s p with
    | none =>
      exact ⟨by simpa using hl, loc_put h2 hl L hp ar (fun y z => by rw [hy] at z; cases z), who_none hps hy⟩
    | some y =>
      dsimp only
      have hpe : p ≠ e := by rintro rfl; rw [hy] at hn; cases hn
      have d1 := dist_to_nxt hp he hpe
      have hyx : x ≠ y := by
        rintro rfl
        exact hx (mem_who.mpr ⟨p, hps, hy⟩)
      by_cases u : Ahead n h x y p
      · rw [if_pos u]
        obtain ⟨r, r1, r2, _⟩ := who_some (x := x) hps hy
        have nd1 : (y :: r).Nodup := r1.nodup_iff.mp nd
        have hxr : x ∉ r := fun z => hx (r1.symm.subset (List.mem_cons_of_mem _ z))
        have hle := ahead_le u
        have := ih (s.set p (some x)) y (nxt n p) e (by simpa using hl) (loc_put h2 hl L hp ar (fun y' z => by rw [hy] at z; cases z; exact u))
          (fun z => by
            rcases List.mem_cons.mp (r2.subset z) with e | e
            · exact hyx e.symm
            · exact (List.nodup_cons.mp nd1).1 e)
          (r2.nodup_iff.mpr (List.nodup_cons.mpr ⟨hxr, (List.nodup_cons.mp nd1).2⟩))
          (nxt_lt hp) he (by rw [sat_ne hps (Ne.symm hpe)]; exact hn)
          (by rw [dist_nxt' (hh y) hp (by omega)]; omega)
          (.inr ⟨x, by rw [prv_nxt hp]; exact sat_same hps, by rw [prv_nxt hp]; exact u⟩) (by omega)
        refine ⟨this.1, this.2.1, this.2.2.trans ?_⟩
        exact ((List.Perm.cons y r2).trans (List.Perm.swap x y r)).trans (List.Perm.cons x r1.symm)
      · rw [if_neg u]
        have u' : Ahead n h y x p := (ahead_total hyx).resolve_left u
        exact ih s x (nxt n p) e hl L hx nd (nxt_lt hp) he hn (by rw [dist_nxt' (hh x) hp (by omega)]; omega)
          (.inr ⟨y, by rw [prv_nxt hp]; exact hy, by rw [prv_nxt hp]; exact u'⟩) (by omega)
structure Settled (n : Nat) (h : Int → Nat) (s : Seats) : Prop where
  len : s.length = n
  loc : Loc n h (sat s)
  emp : (who s).length < n
theorem Settled.nodup (hh : ∀ g, h g < n) {s : Seats} (S : Settled n h s) : (who s).Nodup := by
  have inj : ∀ p q g, p < s.length → q < s.length → sat s p = some g → sat s q = some g → p = q := fun p q g hp hq a b =>
    once hh S.loc (by have := S.len; omega) (by have := S.len; omega) a b
  clear S
  induction s with
  | nil => exact List.nodup_nil
  | cons o r ih =>
    have tl := ih fun p q g hp hq a b => by
      have := inj (p + 1) (q + 1) g (by simpa using hp) (by simpa using hq) (by simpa [sat] using a) (by simpa [sat] using b)
      omega
    cases o with
    | none => unfold who; rw [fm_none]; exact tl
    | some g =>
      unfold who; rw [fm_some]
      refine List.nodup_cons.mpr ⟨fun m => ?_, tl⟩
      obtain ⟨p, hp, e⟩ := mem_who.mp m
      have := inj 0 (p + 1) g (by simp) (by simpa using hp) (by simp [sat]) (by simpa [sat] using e)
      omega
theorem Settled.empty {s : Seats} (S : Settled n h s) : ∃ e, e < n ∧ sat s e = none := by
  have := empty_of (s := s) (by rw [S.len]; exact S.emp)
  rwa [S.len] at this
def comes (n : Nat) (h : Int → Nat) (s : Seats) (x : Int) : Seats := put n h n s x (h x)
theorem comes_ok (h2 : 2 ≤ n) (hh : ∀ g, h g < n) {s : Seats} {x : Int} (S : Settled n h s) (hx : x ∉ who s) :
    (comes n h s x).length = n ∧ Loc n h (sat (comes n h s x)) ∧ List.Perm (who (comes n h s x)) (x :: who s) := by
  obtain ⟨e, he, hn⟩ := S.empty
  have hd := dist_lt (hh x) he
  exact put_ok h2 hh n s x (h x) e S.len S.loc hx (S.nodup hh) (hh x) he hn (by rw [dist_self]; omega) (.inl rfl) hd
theorem comes_settled (h2 : 2 ≤ n) (hh : ∀ g, h g < n) {s : Seats} {x : Int} (S : Settled n h s) (hx : x ∉ who s) (room : (who s).length + 1 < n) : Settled n h (comes n h s x) := by
  obtain ⟨a, b, c⟩ := comes_ok h2 hh S hx
  exact ⟨a, b, by rw [c.length_eq, List.length_cons]; exact room⟩
end
end Ring
set_option linter.all false
namespace Ring
def costAt (n : Nat) (h : Int → Nat) (f : Nat → Nat) (o : Option Int) (p : Nat) : Nat := match o with
  | none => 0
  | some g => f (dist n (h g) p)
def cost (n : Nat) (h : Int → Nat) (f : Nat → Nat) (s : Seats) : Nat → Nat
  | 0 => 0
  | k + 1 => cost n h f s k + costAt n h f (sat s k) k
def most (n : Nat) (h : Int → Nat) (s : Seats) : Nat → Nat
  | 0 => 0
  | k + 1 => max (most n h s k) (costAt n h id (sat s k) k)
section
variable {n : Nat} {h : Int → Nat} {f : Nat → Nat} {s t : Seats} {p q k e : Nat} {x y : Int} {v : Option Int}
theorem most_ge (hq : q < k) : costAt n h id (sat s q) q ≤ most n h s k := by
  induction k with
  | zero => omega
  | succ k ih =>
    unfold most
    by_cases e : q = k
    · subst e; omega
    · have := ih (by omega); omega
def firstE (n : Nat) : Nat → Seats → Nat → Nat
  | 0, _, p => p
  | k + 1, s, p => if sat s p = none then p else firstE n k s (nxt n p)
def fcome (n : Nat) (h : Int → Nat) (s : Seats) (x : Int) : Seats := s.set (firstE n n s (h x)) (some x)
structure Pair (n : Nat) (h : Int → Nat) (A F : Seats) : Prop where
  la : A.length = n
  lf : F.length = n
  em : ∀ q, sat A q = none ↔ sat F q = none
  tot : cost n h id A n = cost n h id F n
  sq : cost n h (fun c => c * c) A n ≤ cost n h (fun c => c * c) F n
  mx : most n h A n ≤ most n h F n
end
end Ring
set_option linter.all false
namespace Ring
theorem far_eq {n a p : Nat} (ha : a < n) (hp : p < n) : ((p : Int) - (a : Int)) % (n : Int) = (dist n a p : Int) := by
  unfold dist
  by_cases e : a ≤ p
  · rw [if_pos e, Int.emod_eq_of_lt (by omega) (by omega)]; omega
  · rw [if_neg e]
    have : ((p : Int) - (a : Int)) % (n : Int) = ((p : Int) - (a : Int) + (n : Int)) % (n : Int) := by rw [Int.add_emod_right]
    rw [this, Int.emod_eq_of_lt (by omega) (by omega)]; omega
theorem on_eq {n p : Nat} (hp : p < n) : ((p : Int) + 1) % (n : Int) = (nxt n p : Int) := by
  unfold nxt
  by_cases e : p + 1 < n
  · rw [if_pos e, Int.emod_eq_of_lt (by omega) (by omega)]; omega
  · rw [if_neg e]
    have : p + 1 = n := by omega
    rw [show ((p : Int) + 1) = (n : Int) by omega, Int.emod_self]; rfl
def mark (g : Int) : Int := (g * 40503 + g / 65536) % 65536
def hm (n : Nat) (g : Int) : Nat := (mark g % (n : Int)).toNat
theorem hm_eq {n : Nat} (hn : 0 < n) (g : Int) : ((hm n g : Nat) : Int) = mark g % (n : Int) := by
  unfold hm
  have := Int.emod_nonneg (mark g) (show (n : Int) ≠ 0 by omega)
  omega
theorem hm_lt {n : Nat} (hn : 0 < n) (g : Int) : hm n g < n := by
  have h1 := hm_eq hn g
  have h2 := Int.emod_lt_of_pos (mark g) (show (0 : Int) < (n : Int) by omega)
  omega
def look (n : Nat) (h : Int → Nat) : Nat → Seats → Int → Nat → Nat → Nat × Option Nat
  | 0, _, _, _, c => (c, none)
  | k + 1, s, g, p, c => match sat s p with
    | none => (c + 1, none)
    | some y => if y = g then (c + 1, some p) else if Ahead n h y g p then look n h k s g (nxt n p) (c + 1) else (c + 1, none)
section
variable {n : Nat} {h : Int → Nat} {s : Seats} {g : Int}
theorem look_found (hh : ∀ g, h g < n) (G : Glo n h (sat s)) {q : Nat} (hq : q < n) (hs : sat s q = some g) : ∀ (k p c : Nat), p < n → dist n (h g) p + dist n p q = dist n (h g) q → dist n p q < k →
    look n h k s g p c = (c + dist n p q + 1, some q) := by
  intro k
  induction k with
  | zero => intro p c _ _ hk; omega
  | succ k ih =>
    intro p c hp hd hk
    unfold look
    by_cases e : p = q
    · subst e
      rw [hs, dist_self]
      simp
    · have dpq : dist n p q ≠ 0 := fun z => e (dist_zero hp hq z)
      obtain ⟨y, hy, u⟩ := G q g hq hs (dist n (h g) q - dist n (h g) p) (by omega) (by omega)
      rw [back_of (hh g) hq hp (by omega)] at hy u
      rw [hy]
      dsimp only
      rw [if_neg (ahead_ne u), if_pos u]
      have d1 := dist_to_nxt hp hq e
      have lt := dist_lt (hh g) hq
      have d2 : dist n (h g) (nxt n p) = dist n (h g) p + 1 := dist_nxt' (hh g) hp (by omega)
      rw [ih (nxt n p) (c + 1) (nxt_lt hp) (by omega) (by omega)]
      congr 1
      omega
theorem look_absent (hh : ∀ g, h g < n) (ab : ∀ q, q < n → sat s q ≠ some g) {e : Nat} (he : e < n) (hn : sat s e = none) : ∀ (k p c : Nat), p < n → dist n (h g) p = c → c ≤ most n h s n + 1 → dist n (h g) p + dist n p e < n → dist n p e < k →
    (look n h k s g p c).2 = none ∧ (look n h k s g p c).1 ≤ most n h s n + 2 := by
  intro k
  induction k with
  | zero => intro p c _ _ _ _ hk; omega
  | succ k ih =>
    intro p c hp hc hm hd hk
    unfold look
    cases hy : sat s p with
    | none => exact ⟨rfl, by dsimp only; omega⟩
    | some y =>
      dsimp only
      rw [if_neg (fun z => ab p hp (by rw [hy, z]))]
      by_cases u : Ahead n h y g p
      · rw [if_pos u]
        have hpe : p ≠ e := by rintro rfl; rw [hy] at hn; cases hn
        have d1 := dist_to_nxt hp he hpe
        have d2 : dist n (h g) (nxt n p) = dist n (h g) p + 1 := dist_nxt' (hh g) hp (by omega)
        have le := ahead_le u
        have mg := most_ge (n := n) (h := h) (s := s) hp
        rw [hy] at mg
        simp only [costAt, id] at mg
        exact ih (nxt n p) (c + 1) (nxt_lt hp) (by omega) (by omega) (by omega) (by omega)
      · rw [if_neg u]
        exact ⟨rfl, by dsimp only; omega⟩
theorem look_in (hh : ∀ g, h g < n) (S : Settled n h s) {q : Nat} (hq : q < n) (hs : sat s q = some g) : look n h n s g (h g) 0 = (dist n (h g) q + 1, some q) := by
  have := look_found hh (glo_of_loc hh S.loc) hq hs n (h g) 0 (hh g) (by rw [dist_self]; omega) (dist_lt (hh g) hq)
  rw [this]; simp
theorem look_out (hh : ∀ g, h g < n) (S : Settled n h s) (hg : g ∉ who s) : (look n h n s g (h g) 0).2 = none ∧ (look n h n s g (h g) 0).1 ≤ most n h s n + 2 := by
  obtain ⟨e, he, hn⟩ := S.empty
  refine look_absent hh (fun q hq z => hg (mem_who.mpr ⟨q, by rw [S.len]; exact hq, z⟩)) he hn n (h g) 0 (hh g) dist_self (by omega) ?_ (dist_lt (hh g) he)
  rw [dist_self]
  have := dist_lt (hh g) he
  omega
end
end Ring
set_option linter.all false
namespace Ring
def shift (n : Nat) (h : Int → Nat) : Nat → Seats → Nat → Seats
  | 0, s, _ => s
  | k + 1, s, p => match sat s (nxt n p) with
    | none => s.set p none
    | some y => if h y = nxt n p then s.set p none else shift n h k (s.set p (some y)) (nxt n p)
section
variable {n : Nat} {h : Int → Nat}
theorem nxt_ne {p : Nat} (h2 : 2 ≤ n) (hp : p < n) : nxt n p ≠ p := by unfold nxt; split <;> omega
theorem shift_ok (h2 : 2 ≤ n) (hh : ∀ g, h g < n) : ∀ (k : Nat) (s : Seats) (p e : Nat) (x : Int) (R : List Int), s.length = n → p < n → e < n → sat s e = none → sat s p = some x →
    (∀ q g, q < n → q ≠ p → sat s q = some g → h g ≠ q → ∃ g', sat s (prv n q) = some g' ∧ Ahead n h g' g (prv n q)) →
    (∀ w, Ahead n h x w p → h w ≠ p → ∃ g', sat s (prv n p) = some g' ∧ Ahead n h g' w (prv n p)) →
    List.Perm (who s) (x :: R) → dist n p e ≤ k →
    (shift n h k s p).length = n ∧ Loc n h (sat (shift n h k s p)) ∧ List.Perm (who (shift n h k s p)) R := by
  intro k
  induction k with
  | zero =>
    intro s p e x R hl hp he hn hx _ _ _ hk
    have : p = e := dist_zero hp he (by omega)
    subst this
    rw [hx] at hn; cases hn
  | succ k ih =>
    intro s p e x R hl hp he hn hx ha hb hw hk
    have hps : p < s.length := by omega
    have hpe : p ≠ e := by rintro rfl; rw [hx] at hn; cases hn
    have d1 := dist_to_nxt hp he hpe
    have fin : (∀ y, sat s (nxt n p) = some y → h y = nxt n p) → (s.set p none).length = n ∧ Loc n h (sat (s.set p none)) ∧ List.Perm (who (s.set p none)) R := by
      intro hnx
      refine ⟨by simpa using hl, fun q g hq hg hne => ?_, ?_⟩
      · by_cases e1 : q = p
        · subst e1; rw [sat_same hps] at hg; cases hg
        · rw [sat_ne hps e1] at hg
          obtain ⟨g', e', u⟩ := ha q g hq e1 hg hne
          by_cases e2 : prv n q = p
          · have : q = nxt n p := by rw [← e2, nxt_prv hq]
            subst this
            exact absurd (hnx g hg) hne
          · exact ⟨g', by rw [sat_ne hps e2]; exact e', u⟩
      · obtain ⟨r, r1, _, r3⟩ := who_some (x := x) hps hx
        rw [r3]
        exact (List.perm_cons x).mp (r1.symm.trans hw)
    unfold shift
    cases hy : sat s (nxt n p) with
    | none => exact fin fun y z => by rw [hy] at z; cases z
    | some y =>
      dsimp only
      by_cases e1 : h y = nxt n p
      · rw [if_pos e1]
        exact fin fun z hz => by rw [hy] at hz; cases hz; exact e1
      · rw [if_neg e1]
        have hq := nxt_lt hp
        have hqp := nxt_ne h2 hp
        obtain ⟨g0, e0, u0⟩ := ha (nxt n p) y hq hqp hy e1
        rw [prv_nxt hp, hx] at e0
        cases e0
        rw [prv_nxt hp] at u0
        obtain ⟨r, r1, r2, _⟩ := who_some (x := y) hps hx
        have hr : List.Perm r R := (List.perm_cons x).mp (r1.symm.trans hw)
        have hqs : nxt n p < s.length := by omega
        refine ih (s.set p (some y)) (nxt n p) e y R (by simpa using hl) hq he (by rw [sat_ne hps (Ne.symm hpe)]; exact hn) (by rw [sat_ne hps hqp]; exact hy) ?_ ?_ (r2.trans (List.Perm.cons y hr)) (by omega)
        · intro q g hqn hne hg hgn
          by_cases e2 : q = p
          · subst e2
            rw [sat_same hps] at hg
            cases hg
            obtain ⟨g', e', u⟩ := hb y u0 hgn
            exact ⟨g', by rw [sat_ne hps (prv_ne h2 hqn)]; exact e', u⟩
          · rw [sat_ne hps e2] at hg
            obtain ⟨g', e', u⟩ := ha q g hqn e2 hg hgn
            have e3 : prv n q ≠ p := fun z => hne (by rw [← z, nxt_prv hqn])
            exact ⟨g', by rw [sat_ne hps e3]; exact e', u⟩
        · intro w u hwn
          rw [prv_nxt hp]
          refine ⟨y, sat_same hps, ?_⟩
          have dw := dist_prv (hh w) hq (Ne.symm hwn)
          have := ahead_back hh hq u (j := 1) (by omega)
          rw [back_one hq, prv_nxt hp] at this
          exact this
theorem goes_ok (h2 : 2 ≤ n) (hh : ∀ g, h g < n) {s : Seats} {x : Int} {p : Nat} {R : List Int} (S : Settled n h s) (hp : p < n) (hx : sat s p = some x) (hw : List.Perm (who s) (x :: R)) :
    Settled n h (shift n h n s p) ∧ List.Perm (who (shift n h n s p)) R := by
  obtain ⟨e, he, hn⟩ := S.empty
  have := shift_ok h2 hh n s p e x R S.len hp he hn hx (fun q g hq _ hg hne => S.loc q g hq hg hne) (fun w u hwn => ?_) hw (Nat.le_of_lt (dist_lt hp he))
  · obtain ⟨a, b, c⟩ := this
    refine ⟨⟨a, b, ?_⟩, c⟩
    have := S.emp
    have l := hw.length_eq
    rw [List.length_cons] at l
    rw [c.length_eq]
    omega
  · by_cases e1 : h x = p
    · have : dist n (h x) p = 0 := by rw [e1, dist_self]
      have le := ahead_le u
      exact absurd (dist_zero (hh w) hp (by omega)) hwn
    · obtain ⟨g', e', u'⟩ := S.loc p x hp hx e1
      refine ⟨g', e', ahead_trans u' ?_⟩
      have dw := dist_prv (hh w) hp (Ne.symm hwn)
      have := ahead_back hh hp u (j := 1) (by omega)
      rw [back_one hp] at this
      exact this
end
end Ring
set_option linter.all false
namespace Ring
def far (g p m : Int) : Int := (p - mark g % m) % m
def aheadF (x y p m : Int) : Bool := decide (far y p m < far x p m) || (decide (far x p m = far y p m) && decide (x < y))
theorem far_dist {n p : Nat} (hp : p < n) (g : Int) : far g (p : Int) (n : Int) = (dist n (hm n g) p : Int) := by
  unfold far
  have h0 : 0 < n := by omega
  rw [← hm_eq h0 g]
  exact far_eq (hm_lt h0 g) hp
theorem aheadF_eq {n p : Nat} (hp : p < n) (x y : Int) : aheadF x y (p : Int) (n : Int) = decide (Ahead n (hm n) x y p) := by
  unfold aheadF Ahead
  rw [far_dist hp, far_dist hp]
  by_cases h1 : dist n (hm n y) p < dist n (hm n x) p
  · have : ((dist n (hm n y) p : Nat) : Int) < (dist n (hm n x) p : Nat) := by omega
    simp [h1]
  · by_cases h2 : dist n (hm n x) p = dist n (hm n y) p
    · simp [h2]
    · have : ¬ (((dist n (hm n x) p : Nat) : Int) = (dist n (hm n y) p : Nat)) := by omega
      simp [h1, h2]
      intro e
      exact absurd e this
def WellAt (n : Nat) (s : Seats) (p : Nat) : Prop := ∀ g, sat s p = some g → hm n g ≠ p → ∃ g', sat s (prv n p) = some g' ∧ Ahead n (hm n) g' g (prv n p)
open Classical in
noncomputable def wellB (n : Nat) (s : Seats) (p : Nat) : Bool := decide (WellAt n s p)
open Classical in
noncomputable def setB (s : Seats) : Bool := decide (none ∈ s ∧ Loc s.length (hm s.length) (sat s))
def ways (n : Nat) (s : Seats) (k : Nat) : List Int := ((List.range k).filter fun i => (sat s i).isSome).map fun i => ((costAt n (hm n) id (sat s i) i : Nat) : Int)
theorem put_none {n : Nat} {h : Int → Nat} {k : Nat} {s : Seats} {x : Int} {p : Nat} (e : sat s p = none) : put n h (k + 1) s x p = s.set p (some x) := by
  unfold put
  rw [e]
theorem put_yes {n : Nat} {h : Int → Nat} {k : Nat} {s : Seats} {x y : Int} {p : Nat} (e : sat s p = some y) (a : Ahead n h x y p) : put n h (k + 1) s x p = put n h k (s.set p (some x)) y (nxt n p) := by
  rw [put, e]
  exact if_pos a
theorem put_no {n : Nat} {h : Int → Nat} {k : Nat} {s : Seats} {x y : Int} {p : Nat} (e : sat s p = some y) (a : ¬ Ahead n h x y p) : put n h (k + 1) s x p = put n h k s x (nxt n p) := by
  rw [put, e]
  exact if_neg a
theorem none_mem {s : Seats} : none ∈ s ↔ ∃ e, e < s.length ∧ sat s e = none := by
  constructor
  · intro h
    obtain ⟨i, hi, e⟩ := List.mem_iff_getElem.mp h
    exact ⟨i, hi, by unfold sat; simp [List.getD, hi, e]⟩
  · rintro ⟨e, he, h⟩
    have : s[e] = none := by rw [sat_get' he]; exact h
    rw [← this]
    exact List.getElem_mem he
end Ring
namespace Ring
theorem sorted_eq : ∀ {a b : List Int}, a.Perm b → a.Pairwise (· ≤ ·) → b.Pairwise (· ≤ ·) → a = b
  | [], b, h, _, _ => (List.Perm.nil_eq h)
  | x :: a, [], h, _, _ => by simpa using h.length_eq
  | x :: a, y :: b, h, ha, hb => by
    obtain ⟨a1, a2⟩ := List.pairwise_cons.mp ha
    obtain ⟨b1, b2⟩ := List.pairwise_cons.mp hb
    have hxy : x = y := by
      have h1 : x ∈ y :: b := h.mem_iff.mp List.mem_cons_self
      have h2 : y ∈ x :: a := h.mem_iff.mpr List.mem_cons_self
      rcases List.mem_cons.mp h1 with e | e
      · exact e
      · rcases List.mem_cons.mp h2 with e' | e'
        · exact e'.symm
        · exact Int.le_antisymm (a1 y e') (b1 x e)
    subst hxy
    rw [sorted_eq (List.Perm.cons_inv h) a2 b2]
theorem who_append (s t : Seats) : who (s ++ t) = who s ++ who t := by
  unfold who
  rw [List.filterMap_append]
theorem who_take (s : Seats) (f : Option Int → Int) (hf : ∀ g, f (some g) = g) : ∀ k, k ≤ s.length → ((List.range k).filter fun i => (sat s i).isSome).map (fun i => f (sat s i)) = who (s.take k)
  | 0, _ => by simp [who]
  | k + 1, hk => by
    have ih := who_take s f hf k (by omega)
    have hk' : k < s.length := by omega
    rw [List.range_succ, List.filter_append, List.map_append, ih, List.take_succ_eq_append_getElem hk', who_append, sat_get' hk']
    congr 1
    cases h : sat s k with
    | none => simp [h, who]
    | some g => simp [h, who, hf]
theorem who_range (s : Seats) : ((List.range s.length).filter fun i => (sat s i).isSome).map (fun i => (sat s i).getD 0) = who s := by
  have := who_take s (fun o => o.getD 0) (fun _ => rfl) s.length (Nat.le_refl _)
  rw [List.take_length] at this
  exact this
end Ring
set_option linter.all false
set_option maxRecDepth 100000
namespace Law
open PySem L2 Ring
def sv : Option Int → V
  | none => .non
  | some g => .int g
theorem sv_some (g : Int) : sv (some g) = .int g := rfl
abbrev svs (s : Seats) : List V := s.map sv
theorem sv_flat (o : Option Int) : flatV (sv o) = true := by cases o <;> rfl
theorem svs_flat (s : Seats) : (svs s).all flatV = true := by
  rw [List.all_eq_true]
  intro v hv
  obtain ⟨o, _, rfl⟩ := List.mem_map.mp hv
  exact sv_flat o
theorem svs_at {s : Seats} {p : Nat} (hp : p < s.length) : atI (svs s) (p : Int) = some (sv (sat s p)) := by
  refine atI_nat ?_
  rw [List.getElem?_map, sat_get hp]
  rfl
theorem svs_len (s : Seats) : (svs s).length = s.length := List.length_map _
theorem ixN_nat {n p : Nat} (hp : p < n) : ixN n (p : Int) = some p := by
  unfold ixN
  rw [if_pos (by omega), if_pos (by omega)]
  simp
theorem svs_set {s : Seats} {p : Nat} {o : Option Int} : (svs s).set p (sv o) = svs (s.set p o) := by
  unfold svs
  rw [List.map_set]
theorem svs_setI {s : Seats} {p : Nat} {g : Int} : (svs s).set p (.int g) = svs (s.set p (some g)) := svs_set (o := some g)
theorem svs_setN {s : Seats} {p : Nat} : (svs s).set p .non = svs (s.set p none) := svs_set (o := none)
theorem inV_non {s : Seats} : inV .non (svs s) = decide (none ∈ s) := by
  unfold inV
  rw [Bool.eq_iff_iff]
  simp only [List.any_eq_true, decide_eq_true_eq]
  constructor
  · rintro ⟨v, hv, e⟩
    obtain ⟨o, ho, rfl⟩ := List.mem_map.mp hv
    cases o with
    | none => exact ho
    | some g => cases e
  · intro h
    exact ⟨.non, List.mem_map.mpr ⟨none, h, rfl⟩, rfl⟩
theorem eqVs_sv : ∀ {s t : Seats}, eqVs (svs s) (svs t) = decide (s = t)
  | [], [] => by simp [eqVs]
  | [], _ :: _ => by simp [eqVs]
  | _ :: _, [] => by simp [eqVs]
  | a :: s, b :: t => by
    have ih := @eqVs_sv s t
    show (eqV (sv a) (sv b) && eqVs (svs s) (svs t)) = _
    rw [ih]
    cases a with
    | none => cases b with
      | none => simp [sv, eqV]
      | some y => simp [sv, eqV]
    | some x => cases b with
      | none => simp [sv, eqV]
      | some y =>
        rw [Bool.eq_iff_iff]
        simp [sv, eqV]
theorem eqVs_ints : ∀ {s t : List Int}, eqVs (s.map V.int) (t.map V.int) = decide (s = t)
  | [], [] => by simp [eqVs]
  | [], _ :: _ => by simp [eqVs]
  | _ :: _, [] => by simp [eqVs]
  | a :: s, b :: t => by
    have ih := @eqVs_ints s t
    show (eqV (.int a) (.int b) && eqVs (s.map V.int) (t.map V.int)) = _
    rw [ih, Bool.eq_iff_iff]
    simp [eqV]
theorem ints_flat (s : List Int) : (s.map V.int).all flatV = true := by
  rw [List.all_eq_true]
  intro v hv
  obtain ⟨o, _, rfl⟩ := List.mem_map.mp hv
  rfl
theorem atI_ints {ns : List Int} {j : Nat} (h : j < ns.length) : atI (ns.map V.int) (j : Int) = some (.int ns[j]) := by
  refine atI_nat ?_
  rw [List.getElem?_map, List.getElem?_eq_getElem h]
  rfl
def spLaw (K : PySem.W.Frag) : Sp := fun vs H Q _ => ∃ (a : Addr) (ns : List Int), vs = [.ref a] ∧ SqL K H a (ns.map V.int) ∧ ns.length ≤ 63 ∧ ∀ H', Q (.bl true) H'
def P60 : Int := 1000000000000000000000000000000000000000000000000000000000000
theorem p60 : (10 : Int) ^ (60 : Int).toNat = P60 := by decide +kernel
def cellF (ns : List Int) (k : Int) : Int := ns.getD k.toNat 0
def spHome : Sp := fun vs H Q _ => ∃ g m : Int, vs = [.int g, .int m] ∧ 0 < m ∧ Q (.int (mark g % m)) H
def spCarried : Sp := fun vs H Q _ => ∃ g p m : Int, vs = [.int g, .int p, .int m] ∧ 0 < m ∧ Q (.int (far g p m)) H
def spAhead : Sp := fun vs H Q _ => ∃ x y p m : Int, vs = [.int x, .int y, .int p, .int m] ∧ 0 < m ∧ Q (.bl (aheadF x y p m)) H
def spCell (K : PySem.W.Frag) : Sp := fun vs H Q _ => ∃ (a : Addr) (ns : List Int) (k : Int), vs = [.ref a, .int k] ∧ SqL K H a (ns.map V.int) ∧ 0 ≤ k ∧ Q (.int (cellF ns k)) H
def spWhole : Sp := fun vs H Q _ => ∃ i : Int, vs = [.int i] ∧ Q (.bl true) H
theorem rd_home {g m : Int} {H : Hp} {Q : VK} {E : XK} (h : 0 < m) (q : Q (.int (mark g % m)) H) : spHome [.int g, .int m] H Q E := ⟨g, m, rfl, h, q⟩
theorem rd_carried {g p m : Int} {H : Hp} {Q : VK} {E : XK} (h : 0 < m) (q : Q (.int (far g p m)) H) : spCarried [.int g, .int p, .int m] H Q E := ⟨g, p, m, rfl, h, q⟩
theorem rd_homeN {g : Int} {n : Nat} {H : Hp} {Q : VK} {E : XK} (h : 0 < n) (q : Q (.int ((hm n g : Nat) : Int)) H) : spHome [.int g, .int (n : Int)] H Q E := by
  rw [hm_eq h] at q
  exact ⟨g, n, rfl, by omega, q⟩
theorem rd_carriedN {g : Int} {p n : Nat} {H : Hp} {Q : VK} {E : XK} (h : p < n) (q : Q (.int ((dist n (hm n g) p : Nat) : Int)) H) : spCarried [.int g, .int (p : Int), .int (n : Int)] H Q E := by
  rw [← far_dist h] at q
  exact ⟨g, p, n, rfl, by omega, q⟩
theorem rd_aheadN {x y : Int} {p n : Nat} {H : Hp} {Q : VK} {E : XK} (h : p < n) (q : Q (.bl (decide (Ahead n (hm n) x y p))) H) : spAhead [.int x, .int y, .int (p : Int), .int (n : Int)] H Q E := by
  rw [← aheadF_eq h] at q
  exact ⟨x, y, p, n, rfl, by omega, q⟩
theorem rd_whole {i : Int} {H : Hp} {Q : VK} {E : XK} (q : Q (.bl true) H) : spWhole [.int i] H Q E := ⟨i, rfl, q⟩
def spWell (K : PySem.W.Frag) : Sp := fun vs H Q _ => ∃ (a : Addr) (s : Seats) (p : Nat), vs = [.ref a, .int (p : Int)] ∧ SqL K H a (svs s) ∧ p < s.length ∧ Q (.bl (wellB s.length s p)) H
def spSettled (K : PySem.W.Frag) : Sp := fun vs H Q _ => ∃ (a : Addr) (s : Seats), vs = [.ref a] ∧ SqL K H a (svs s) ∧ s.length ≤ 1024 ∧ ∀ H', Same H H' → Q (.bl (setB s)) H'
def strainV (s : Seats) : List V := [.int ((cost s.length (hm s.length) id s s.length : Nat) : Int), .int ((most s.length (hm s.length) s s.length : Nat) : Int), .int ((cost s.length (hm s.length) (fun x => x * x) s s.length : Nat) : Int)]
def spStrain : Sp := fun vs H Q _ => ∃ (a : Addr) (s : Seats), vs = [.ref a] ∧ H a = some (.lst (svs s)) ∧ s.length ≤ 1024 ∧ ∀ t H', Same H H' → H' t = some (.tup (strainV s)) → Q (.ref t) H'
def spPut : Sp := fun vs H Q _ => ∃ (a : Addr) (s : Seats) (x : Int), vs = [.ref a, .int x] ∧ H a = some (.lst (svs s)) ∧ (∃ e, e < s.length ∧ sat s e = none) ∧ Q .non (upd H a (.lst (svs (comes s.length (hm s.length) s x))))
def spGuestBy : Sp := fun vs H Q _ => ∃ c b : Int, vs = [.int c, .int b] ∧ 0 ≤ b ∧ b < P60 - 10000000000000 ∧ ∀ g : Int, 0 ≤ g → g < P60 → Q (.int g) H
def spManyBy : Sp := fun vs H Q _ => ∃ c : Int, vs = [.int c] ∧ ∀ n : Nat, 2 ≤ n → n ≤ 1024 → Q (.int (n : Int)) H
def spSeated (K : PySem.W.Frag) : Sp := fun vs H Q _ => ∃ (a : Addr) (cs : List Int) (b : Int) (n : Nat), vs = [.ref a, .int b, .int (n : Int)] ∧ SqL K H a (cs.map V.int) ∧ cs.length ≤ 63 ∧ 0 ≤ b ∧ b < P60 - 10000000000000 ∧ 2 ≤ n ∧ n ≤ 1024 ∧
  ∀ l s H', Settled n (hm n) s → (∀ g ∈ who s, 0 ≤ g ∧ g < P60) → (who s).length ≤ 63 → Same H H' → H' l = some (.lst (svs s)) → H l = none → Q (.ref l) H'
end Law
local macro_rules | `(tactic| tm_at "rd1") => `(tactic| first
  | ((with_reducible refine Law.rd_whole ?_))
  | ((with_reducible refine Law.rd_homeN ?_ ?_); (· (first | assumption | omega)))
  | ((with_reducible refine Law.rd_carriedN ?_ ?_); (· (first | assumption | omega)))
  | ((with_reducible refine Law.rd_aheadN ?_ ?_); (· (first | assumption | omega))))
set_option linter.all false
set_option maxRecDepth 100000
namespace L2
end L2
local macro_rules | `(tactic| tm_at "rd1") => `(tactic| first
  | ((with_reducible refine L2.rd_seqX ?_))
  | ((with_reducible refine L2.rd_lift ?_))
  | ((with_reducible refine L2.rd_nextX ?_))
  | ((with_reducible refine L2.rd_ifX ?_))
  | ((with_reducible refine L2.rd_callX ?_))
  | ((with_reducible refine L2.rd_ifXX ?_))
  | ((with_reducible refine L2.rd_notNX ?_))
  | ((with_reducible refine L2.rd_try ?_))
  | ((with_reducible refine L2.rd_sl3 ?_)))
set_option linter.all false
set_option maxRecDepth 100000
namespace Law
open PySem L2 Ring
def Odd (K : PySem.W.Frag) (H : Hp) (x : V) : Prop := (∃ b, x = .bl b) ∨ ∃ t, TyOf K H x t ∧ PySem.W.kitOne K t (.type "bool") = some false ∧ PySem.W.kitOne K t (.type "int") = some false
def Bad (K : PySem.W.Frag) (H : Hp) (x : V) : Prop := (∃ i : Int, x = .int i ∧ ¬ (0 ≤ i ∧ i < P60)) ∨ Odd K H x
def spIW (K : PySem.W.Frag) : Sp := fun vs H Q _ => (∃ i : Int, vs = [.int i] ∧ Q (.bl true) H) ∨ (∃ x, vs = [x] ∧ Odd K H x ∧ Q (.bl false) H)
def spIs (K : PySem.W.Frag) : Sp := fun vs H Q _ => (∃ i : Int, vs = [.int i] ∧ Q (.bl (decide (0 ≤ i ∧ i < P60))) H) ∨ (∃ x, vs = [x] ∧ Odd K H x ∧ Q (.bl false) H)
def spCheck (K : PySem.W.Frag) (NG : Addr) : Sp := fun vs H Q E => (∃ i : Int, vs = [.int i] ∧ 0 ≤ i ∧ i < P60 ∧ Q .non H) ∨ (∃ x, vs = [x] ∧ Bad K H x ∧ E (.ref NG) none H)
def placeV (s : Seats) (g : Int) : V := match (look s.length (hm s.length) s.length s g (hm s.length g) 0).2 with
  | none => .non
  | some p => .int (p : Int)
def looksN (s : Seats) (g : Int) : Nat := (look s.length (hm s.length) s.length s g (hm s.length g) 0).1
def spPassed (K : PySem.W.Frag) : Sp := fun vs H Q _ => ∃ (a : Addr) (s : Seats) (g : Int), vs = [.ref a, .int g] ∧ SqL K H a (svs s) ∧ none ∈ s ∧
  ∀ c p : Nat, p < s.length → (((hm s.length g : Nat) : Int) + (c : Int)) % (s.length : Int) = (p : Int) → look s.length (hm s.length) s.length s g (hm s.length g) 0 = (c + 1, if sat s p = some g then some p else none) → Q (.int (c : Int)) H
def spPlace (K : PySem.W.Frag) (NG : Addr) : Sp := fun vs H Q E => (∃ (a : Addr) (s : Seats) (g : Int), vs = [.ref a, .int g] ∧ SqL K H a (svs s) ∧ none ∈ s ∧ 0 ≤ g ∧ g < P60 ∧ Q (placeV s g) H) ∨ (∃ (a : Addr) (x : V), vs = [.ref a, x] ∧ Bad K H x ∧ E (.ref NG) none H)
def spLooks (K : PySem.W.Frag) (NG : Addr) : Sp := fun vs H Q E => (∃ (a : Addr) (s : Seats) (g : Int), vs = [.ref a, .int g] ∧ SqL K H a (svs s) ∧ none ∈ s ∧ 0 ≤ g ∧ g < P60 ∧ Q (.int (looksN s g : Int)) H) ∨ (∃ (a : Addr) (x : V), vs = [.ref a, x] ∧ Bad K H x ∧ E (.ref NG) none H)
def spSeatIn (K : PySem.W.Frag) (NG TW FU : Addr) : Sp := fun vs H Q E => (∃ (a : Addr) (s : Seats) (g : Int), vs = [.ref a, .int g] ∧ SqL K H a (svs s) ∧ Settled s.length (hm s.length) s ∧ s.length ≤ 1024 ∧ 0 ≤ g ∧ g < P60 ∧
  (g ∈ who s → E (.ref TW) none H) ∧ (g ∉ who s → s.length ≤ (who s).length + 1 → E (.ref FU) none H) ∧ (g ∉ who s → (who s).length + 1 < s.length → ∀ l, H l = none → Q (.ref l) (upd H l (.lst (svs (comes s.length (hm s.length) s g)))))) ∨
  (∃ (a : Addr) (x : V), vs = [.ref a, x] ∧ Bad K H x ∧ E (.ref NG) none H)
theorem place_in {s : Seats} (St : Settled s.length (hm s.length) s) {g : Int} (h : g ∈ who s) : ∃ p : Nat, p < s.length ∧ sat s p = some g ∧ placeV s g = .int (p : Int) := by
  obtain ⟨p, hp, hs⟩ := mem_who.mp h
  have n0 : 0 < s.length := by omega
  have := look_in (fun g => hm_lt n0 g) St hp hs
  refine ⟨p, hp, hs, ?_⟩
  unfold placeV
  rw [this]
theorem place_out {s : Seats} (St : Settled s.length (hm s.length) s) {g : Int} (h : g ∉ who s) : placeV s g = .non := by
  have n0 : 0 < s.length := by have := St.emp; omega
  have := (look_out (fun g => hm_lt n0 g) St h).1
  unfold placeV
  rw [this]
theorem settled_none {s : Seats} (St : Settled s.length (hm s.length) s) : none ∈ s := none_mem.mpr St.empty
theorem count_none (s : Seats) : (svs s).countP (fun z => eqV z .non) = s.count none := by
  induction s with
  | nil => rfl
  | cons o s ih =>
    show (sv o :: svs s).countP _ = _
    rw [List.countP_cons, ih, List.count_cons]
    cases o with
    | none => rfl
    | some g => rfl
def flNG : List Bool := [true, false, false, true, false, false]
def flTW : List Bool := [false, true, false, true, false, false]
def flFU : List Bool := [false, false, true, true, false, false]
def spSeatOut (K : PySem.W.Frag) (NG AW : Addr) : Sp := fun vs H Q E => (∃ (a : Addr) (s : Seats) (g : Int), vs = [.ref a, .int g] ∧ SqL K H a (svs s) ∧ Settled s.length (hm s.length) s ∧ 2 ≤ s.length ∧ s.length ≤ 1024 ∧ 0 ≤ g ∧ g < P60 ∧
  (g ∉ who s → E (.ref AW) none H) ∧ (g ∈ who s → ∀ l r, H l = none → Settled s.length (hm s.length) r → (∀ R, (who s).Perm (g :: R) → (who r).Perm R) → Q (.ref l) (upd H l (.lst (svs r))))) ∨
  (∃ (a : Addr) (x : V), vs = [.ref a, x] ∧ Bad K H x ∧ E (.ref NG) none H)
def P58 : Int := 10000000000000000000000000000000000000000000000000000000000
def P40 : Int := 10000000000000000000000000000000000000000
theorem p40 : (10 : Int) ^ (40 : Int).toNat = P40 := by decide +kernel
theorem p32 : (2 : Int) ^ (32 : Int).toNat = 4294967296 := by decide +kernel
def spBase7 : Sp := fun vs H Q _ => ∃ c : Int, vs = [.int c] ∧ ∀ b : Int, 0 ≤ b → b < P58 → Q (.int b) H
def spGuest7 : Sp := fun vs H Q _ => ∃ c b : Int, vs = [.int c, .int b] ∧ 0 ≤ b ∧ b < P58 ∧ ∀ g : Int, 0 ≤ g → g < P60 → Q (.int g) H
def spDrawn (K : PySem.W.Frag) : Sp := fun vs H Q _ => ∃ (a : Addr) (cs : List Int) (b : Int), vs = [.ref a, .int b] ∧ SqL K H a (cs.map V.int) ∧ cs.length ≤ 63 ∧ 0 ≤ b ∧ b < P58 ∧
  ∀ (l : Addr) (ds : List Int) (H' : Hp), ds.Nodup → (∀ g ∈ ds, 0 ≤ g ∧ g < P60) → ds.length ≤ cs.length → Same H H' → H' l = some (.lst (ds.map V.int)) → H l = none → Q (.ref l) H'
def spSett3 (K : PySem.W.Frag) : Sp := fun vs H Q _ => ∃ (a b : Addr) (s : Seats) (ds : List Int), vs = [.ref a, .int (s.length : Int), .ref b] ∧ H a = some (.lst (svs s)) ∧ SqL K H b (ds.map V.int) ∧ s.length ≤ 1024 ∧ Settled s.length (hm s.length) s ∧ (who s).Perm ds ∧ ds.length < 64 ∧ ∀ H', Same H H' → Q (.bl true) H'
def spSame (K : PySem.W.Frag) : Sp := fun vs H Q _ => ∃ (a b : Addr) (s : Seats), vs = [.ref a, .ref b] ∧ H a = some (.lst (svs s)) ∧ H b = some (.lst (svs s)) ∧ ∀ H', Same H H' → Q (.bl true) H'
def spOdd (K : PySem.W.Frag) : Sp := fun vs H Q _ => ∃ c : Int, vs = [.int c] ∧ ∀ x H', Bad K H' x → Same H H' → Q x H'
theorem look_none {n : Nat} {h : Int → Nat} {k : Nat} {s : Seats} {g : Int} {p c : Nat} (e : sat s p = none) : look n h (k + 1) s g p c = (c + 1, none) := by
  rw [look, e]
theorem look_here {n : Nat} {h : Int → Nat} {k : Nat} {s : Seats} {g : Int} {p c : Nat} (e : sat s p = some g) : look n h (k + 1) s g p c = (c + 1, some p) := by
  rw [look, e]
  exact if_pos rfl
theorem look_on {n : Nat} {h : Int → Nat} {k : Nat} {s : Seats} {g y : Int} {p c : Nat} (e : sat s p = some y) (hy : y ≠ g) (a : Ahead n h y g p) : look n h (k + 1) s g p c = look n h k s g (nxt n p) (c + 1) := by
  rw [look, e]
  show (if y = g then _ else _) = _
  rw [if_neg hy, if_pos a]
theorem look_end {n : Nat} {h : Int → Nat} {k : Nat} {s : Seats} {g y : Int} {p c : Nat} (e : sat s p = some y) (hy : y ≠ g) (a : ¬ Ahead n h y g p) : look n h (k + 1) s g p c = (c + 1, none) := by
  rw [look, e]
  show (if y = g then _ else _) = _
  rw [if_neg hy, if_neg a]
end Law
theorem PyProof.Rows.boot_ValueError : PySem.bootBuiltins "ValueError" = some (.type "ValueError") := by decide +kernel
set_option linter.all false
set_option maxRecDepth 100000
namespace L2
open PySem PySem.Spec PyProof
def gLst (K : PySem.W.Frag) (n : Nat) (t : TGs) : TG := fun v σ H Q => ∃ a xs, v = .ref a ∧ SqL K H a xs ∧ xs.length = n ∧ t xs σ H Q
section
variable {X : Cx}
def rInsert : V → List V → Hp → VK → Prop := fun x vs H Q => ∃ l xs i y, x = .ref l ∧ vs = [.int i, y] ∧ H l = some (.lst xs) ∧ 0 ≤ i ∧ i < 2 ^ 62 ∧ xs.length < sizeLine ∧ Q .non (upd H l (.lst (xs.take i.toNat ++ y :: xs.drop i.toNat)))
theorem dedup_len : ∀ (ns acc : List Int), (ns.foldl Rows.step_dedup acc).length ≤ acc.length + ns.length ∧ ((ns.foldl Rows.step_dedup acc).length = acc.length + ns.length ↔ ns.Nodup ∧ ∀ x ∈ ns, x ∉ acc)
  | [], acc => by simp
  | x :: ns, acc => by
    have ih := dedup_len ns (Rows.step_dedup acc x)
    rw [List.foldl_cons]
    by_cases hx : x ∈ acc
    · have e : Rows.step_dedup acc x = acc := by
        unfold Rows.step_dedup
        rw [if_pos (by simpa using hx)]
      rw [e] at ih ⊢
      refine ⟨by rw [List.length_cons]; omega, ?_⟩
      constructor
      · intro h
        rw [List.length_cons] at h
        omega
      · rintro ⟨_, h⟩
        exact absurd hx (h x (List.mem_cons_self ..))
    · have e : Rows.step_dedup acc x = acc ++ [x] := by
        unfold Rows.step_dedup
        rw [if_neg (by simpa using hx)]
      rw [e] at ih ⊢
      rw [List.length_append] at ih
      have el : [x].length = 1 := rfl
      rw [el] at ih
      rw [List.length_cons]
      refine ⟨by omega, ?_⟩
      have ih2 := ih.2
      rw [show acc.length + (ns.length + 1) = acc.length + 1 + ns.length by omega, ih2, List.nodup_cons]
      constructor
      · rintro ⟨h1, h2⟩
        refine ⟨⟨fun m => h2 x m (List.mem_append.mpr (.inr (List.mem_singleton.mpr rfl))), h1⟩, fun y hy => ?_⟩
        rcases List.mem_cons.mp hy with rfl | hy
        · exact hx
        · exact fun m => h2 y hy (List.mem_append.mpr (.inl m))
      · rintro ⟨⟨h1, h2⟩, h3⟩
        refine ⟨h2, fun y hy m => ?_⟩
        rcases List.mem_append.mp m with m | m
        · exact h3 y (List.mem_cons_of_mem _ hy) m
        · rw [List.mem_singleton.mp m] at hy
          exact h1 hy
theorem range_get (l : List Int) : (List.range l.length).map (fun i => l.getD i 0) = l := by
  refine List.ext_getElem (by rw [List.length_map, List.length_range]) fun i h1 h2 => ?_
  rw [List.getElem_map, List.getElem_range, List.getD_eq_getElem?_getD, List.getElem?_eq_getElem h2]
  rfl
theorem firstMet_len (ns : List Int) : (Rows.firstMet (fun i => ns.getD i 0) ns.length).length ≤ ns.length ∧ ((Rows.firstMet (fun i => ns.getD i 0) ns.length).length = ns.length ↔ ns.Nodup) := by
  unfold Rows.firstMet
  rw [range_get]
  have h := dedup_len ns []
  rw [List.length_nil, Nat.zero_add] at h
  refine ⟨h.1, h.2.trans ⟨fun z => z.1, fun z => ⟨z, fun _ _ m => nomatch m⟩⟩⟩
theorem call_setI (hc : X.calm = true) : CallR X (.type "set") (fun xs H Q => ∃ (a : Addr) (ns : List Int), xs = [.ref a] ∧ SqL X.K H a (ns.map V.int) ∧ ns.length ≤ 1024 ∧ ∀ (l : Addr) (S : Int → Bool) (n : Nat), H l = none → (n = ns.length ↔ ns.Nodup) → n ≤ ns.length → Q (.ref l) (upd H l (.set S n))) := by
  intro pins s σ H xs us Q I r h
  obtain ⟨a, ns, rfl, hq, hn, q⟩ := h
  obtain ⟨u, rfl, rx⟩ := vals1 r
  cases rx
  obtain ⟨its, rv, pl, hz⟩ := I.list hq
  have hlen := rv.length
  rw [List.length_map] at hlen
  refine call_set_list (ns := ns) (I.ok.hd hc) pl.isList (intsAre_of_vals rv) (by rw [List.size_toArray, ← hlen]; exact Nat.lt_of_le_of_lt (show ns.length + 1 ≤ 1025 by omega) (by decide)) fun h' tk hS hk => ?_
  rw [show its.toArray.size = ns.length by rw [List.size_toArray, hlen]] at hS
  have f := firstMet_len ns
  exact ⟨.ref s.heap.objs.size, _, I.laid (a := s.heap.objs.size) (o := .set _ _) (t' := tk) (fun b o e => hk b o (Heap.lt_size e) e) (Nat.le_refl _) hS, rfl, q _ _ _ I.fresh f.2 f.1⟩
theorem call_lenS : CallR X (.builtin "len") (fun xs H Q => ∃ (a : Addr) (S : Int → Bool) (n : Nat), xs = [.ref a] ∧ H a = some (.set S n) ∧ Q (.int n) H) := by
  intro pins s σ H xs us Q I r h
  obtain ⟨a, S, n, rfl, hq, q⟩ := h
  obtain ⟨u, rfl, rx⟩ := vals1 r
  cases rx
  have ho : s.heap.SetOf (intKind X.prog X.w) a S n := I.hok a _ hq
  obtain ⟨o, es, ep, t, h1, h2, h3, _, _, h6, h7, h8⟩ := ho
  refine call_len_set h1 h2 h3 h7 (by have : scanBound ≤ 2 ^ 62 := by decide
                                      omega) ⟨.int n, H, I.tok _, ⟨_, by rw [h8]⟩, q⟩
def rNeC (K : PySem.W.Frag) : R2 := fun x y H Q => ∃ a b xs, x = .ref a ∧ y = .ref b ∧ SqL K H a xs ∧ SqL K H b xs ∧ (∀ z ∈ xs, flatV z = true ∨ ∃ r, z = .ref r) ∧ Q (.bl false) H
end
end L2
set_option linter.all false
set_option maxRecDepth 100000
namespace L2
section
variable {σ : St} {H : Hp} {K : PySem.W.Frag}
theorem rd_forX {wi : TI} {g : TG} {tb : TSX} {D : Ends} {E : PySem.Value → St → Hp → Prop} (q : wi σ H fun J H1 => ∃ W : Nat → Nat → St → Hp → Prop, (∃ m, W 0 m σ H1) ∧ ∀ i m σ H, W i m σ H →
  (J.stop i H ∧ D.nx σ H) ∨ (J.go i H ∧ ∃ N : St → Hp → Prop, (∀ σ' H', N σ' H' → ∃ m', m' < m ∧ W (i + 1) m' σ' H') ∧ ∀ x H', J.yld i H x H' → g x σ H' fun σ2 H2 => tb { D with nx := N, ct := N, bk := D.nx } E σ2 H2)) : tForX wi g tb D E σ H := q
theorem for_listX {a : PySem.Addr} {xs : List V} {g : TG} {B : (St → Hp → Prop) → St → Hp → Prop} {nx : St → Hp → Prop} (Pv : Nat → St → Hp → Prop) (h0 : Pv 0 σ H) (hl : ∀ i σ H, i ≤ xs.length → Pv i σ H → SqL K H a xs)
    (hs : ∀ i x σ H, xs[i]? = some x → Pv i σ H → g x σ H fun σ2 H2 => B (Pv (i + 1)) σ2 H2) (hd : ∀ σ H, Pv xs.length σ H → nx σ H) :
    ∃ W : Nat → Nat → St → Hp → Prop, (∃ m, W 0 m σ H) ∧ ∀ i m σ H, W i m σ H →
      ((Itl K a).stop i H ∧ nx σ H) ∨ ((Itl K a).go i H ∧ ∃ N : St → Hp → Prop, (∀ σ' H', N σ' H' → ∃ m', m' < m ∧ W (i + 1) m' σ' H') ∧ ∀ x H', (Itl K a).yld i H x H' → g x σ H' fun σ2 H2 => B N σ2 H2) :=
  for_list (tb := fun D => B D.nx) (D := { nx := nx, rt := fun _ _ => True }) Pv h0 hl hs hd
end
end L2
local macro_rules | `(tactic| tm_at "rd1") => `(tactic| first
  | ((with_reducible refine L2.rd_forX ?_)))
set_option linter.all false
set_option maxRecDepth 100000
namespace Law
open PySem L2 Ring
def offs (gs : List Int) (s0 : Int) (i : Nat) : Nat := gs.countP fun d => decide ((i : Int) ≤ (d - s0) % P60)
theorem nodup_take {ds : List Int} {k : Nat} (h : ds.Nodup) : (ds.take k).Nodup := h.sublist (List.take_sublist k ds)
theorem take_succ_get {ds : List Int} {i : Nat} {g : Int} (h : ds[i]? = some g) : ds.take (i + 1) = ds.take i ++ [g] := by
  rw [List.take_succ, h]
  rfl
theorem not_in_take {ds : List Int} {i : Nat} {g : Int} (nd : ds.Nodup) (h : ds[i]? = some g) : g ∉ ds.take i := by
  have h1 := nodup_take (k := i + 1) nd
  rw [take_succ_get h] at h1
  intro m
  exact (List.nodup_append.mp h1).2.2 g m g (List.mem_singleton.mpr rfl) rfl
end Law
set_option linter.all false
set_option maxRecDepth 100000
namespace Law
open PySem L2 Ring
def Gs (ds : List Int) : Prop := ∀ g ∈ ds, 0 ≤ g ∧ g < P60
def BadL (K : PySem.W.Frag) (H : Hp) (xs : List V) : Prop := (∃ x ∈ xs, Bad K H x) ∧ ∀ x ∈ xs, (∃ g : Int, x = .int g ∧ 0 ≤ g ∧ g < P60) ∨ Bad K H x
def spCheckL (K : PySem.W.Frag) (NG TW FU : Addr) : Sp := fun vs H Q E => (∃ (a : Addr) (xs : List V) (n : Int), vs = [.ref a, .int n] ∧ SqL K H a xs ∧ BadL K H xs ∧ E (.ref NG) none H) ∨
  (∃ (a : Addr) (ds : List Int) (n : Int), vs = [.ref a, .int n] ∧ SqL K H a (ds.map V.int) ∧ Gs ds ∧ ds.length ≤ 1024 ∧ ∀ H', Same H H' → (¬ ds.Nodup → E (.ref TW) none H') ∧ (ds.Nodup → n ≤ (ds.length : Int) → E (.ref FU) none H') ∧ (ds.Nodup → (ds.length : Int) < n → Q .non H'))
def spSeatedF (K : PySem.W.Frag) (NG TW FU : Addr) : Sp := fun vs H Q E => (∃ (a : Addr) (xs : List V) (n : Int), vs = [.ref a, .int n] ∧ SqL K H a xs ∧ BadL K H xs ∧ E (.ref NG) none H) ∨
  (∃ (a : Addr) (ds : List Int) (n : Nat), vs = [.ref a, .int (n : Int)] ∧ SqL K H a (ds.map V.int) ∧ Gs ds ∧ ds.length ≤ 1024 ∧ 2 ≤ n ∧ n ≤ 1024 ∧ ∀ H', Same H H' → (¬ ds.Nodup → E (.ref TW) none H') ∧ (ds.Nodup → n ≤ ds.length → E (.ref FU) none H') ∧
    (ds.Nodup → ds.length < n → ∀ (l : Addr) (t : Seats), H l = none → H' l = some (.lst (svs t)) → Settled n (hm n) t → (who t).Perm ds → Q (.ref l) H'))
def spTurned (K : PySem.W.Frag) : Sp := fun vs H Q _ => ∃ (a c : Addr) (ds cl : List Int), vs = [.ref a, .ref c] ∧ SqL K H a (ds.map V.int) ∧ SqL K H c (cl.map V.int) ∧ ds.length ≤ cl.length ∧ ds.length ≤ 63 ∧ ∀ (l : Addr) (os : List Int) (H' : Hp), Same H H' → H' l = some (.lst (os.map V.int)) → os.Perm ds → Q (.ref l) H'
def spOne (K : PySem.W.Frag) : Sp := fun vs H Q _ => ∃ (a c : Addr) (os cl : List Int) (n : Nat) (b : Int), vs = [.ref a, .int (n : Int), .ref c, .int b] ∧ SqL K H a (os.map V.int) ∧ SqL K H c (cl.map V.int) ∧ os.length ≤ cl.length ∧ Gs os ∧ os.Nodup ∧ os.length + 2 ≤ n ∧ n ≤ 1024 ∧ 0 ≤ b ∧ b < P58 ∧
  ∀ (l : Addr) (t : Seats) (H' : Hp), Same H H' → H' l = some (.lst (svs t)) → Settled n (hm n) t → (who t).Perm os → Q (.ref l) H'
def flr (a b c : Bool) : List Bool := [a, b, c, true]
def Due (K : PySem.W.Frag) (H : Hp) (xs : List V) (n : Nat) (d1 d2 d3 : Bool) : Prop := (d1 = true ∧ d2 = false ∧ d3 = false ∧ BadL K H xs) ∨
  (d1 = false ∧ ∃ es : List Int, xs = es.map V.int ∧ Gs es ∧ es.length ≤ 1024 ∧ ((d2 = true ∧ d3 = false ∧ ¬ es.Nodup) ∨ (d2 = false ∧ d3 = true ∧ es.Nodup ∧ n ≤ es.length) ∨ (d2 = false ∧ d3 = false)))
def spRef08 (K : PySem.W.Frag) : Sp := fun vs H Q _ => ∃ (a : Addr) (xs : List V) (n : Nat) (d1 d2 d3 : Bool), vs = [.ref a, .int (n : Int)] ∧ SqL K H a xs ∧ 2 ≤ n ∧ n ≤ 1024 ∧ Due K H xs n d1 d2 d3 ∧ (d1 = true ∨ d2 = true ∨ d3 = true) ∧ ∀ (l : Addr) (H' : Hp), Same H H' → H' l = some (.lst ((flr d1 d2 d3).map V.bl)) → Q (.ref l) H'
def Fl (xs : List V) : Prop := ∀ z ∈ xs, flatV z = true ∨ ∃ r, z = .ref r
def spOdd2 (K : PySem.W.Frag) : Sp := fun vs H Q _ => ∃ c : Int, vs = [.int c] ∧ ∀ x H', Bad K H' x → Same H H' → (flatV x = true ∨ ∃ r, x = .ref r) → Q x H'
def spSpoil (K : PySem.W.Frag) : Sp := fun vs H Q _ => ∃ (a b : Addr) (ns ds : List Int), vs = [.ref a, .ref b] ∧ SqL K H a (ns.map V.int) ∧ H b = some (.lst (ds.map V.int)) ∧ Gs ds ∧ ds.Nodup ∧ ds.length ≤ 63 ∧
  ∀ (l ls ld : Addr) (xs : List V) (n : Nat) (d1 d2 d3 : Bool) (H' : Hp), Same H H' → H' l = some (.lst [.ref ls, .int (n : Int), .ref ld]) → H' ls = some (.lst xs) → H' ld = some (.lst ([d1, d2, d3].map V.bl)) → 2 ≤ n → n ≤ 1024 → Fl xs → Due K H' xs n d1 d2 d3 → Q (.ref l) H'
end Law
set_option linter.all false
namespace L2
open PySem PyProof
end L2
set_option Elab.async false
set_option linter.all false
set_option maxRecDepth 100000
namespace L2
open PySem PySem.Spec PyProof PyProof.Rows
end L2
namespace L2
open PySem PySem.Spec PyProof PyProof.Rows
section
variable {X : Cx}
def tSortV (td : TE) : TE := fun σ H Q => td σ H fun x H1 => ∃ (a : Addr) (kvs : List (Key × V)) (ns : List Int), x = .ref a ∧ H1 a = some (.dK kvs) ∧ kvs.map (·.2) = ns.map V.int ∧ ns.length < 64 ∧ ∀ (l : Addr) (ns' : List Int), H1 l = none → ns'.Perm ns → ns'.Pairwise (· ≤ ·) → Q (.ref l) (upd H1 l (.lst (ns'.map V.int)))
def Iti (a : Addr) (o : Obj) (kvs : List (Key × V)) : It :=
  ⟨fun i H => H a = some (.frz o (.dK kvs)) ∧ i < kvs.length, fun i H v H' => ∃ (t : Addr) (k : Key) (x : V), H t = none ∧ v = .ref t ∧ H' = upd H t (.tup [kV k, x]) ∧ kvs[i]? = some (k, x), fun i H => H a = some (.frz o (.dK kvs)) ∧ kvs.length ≤ i⟩
def iItems (td : TE) : TI := fun σ H R => td σ H fun x H1 => ∃ (a : Addr) (kvs : List (Key × V)), x = .ref a ∧ H1 a = some (.dK kvs) ∧ ∀ o, R (Iti a o kvs) (upd H1 a (.frz o (.dK kvs)))
end
end L2
set_option Elab.async false
set_option linter.all false
set_option maxRecDepth 100000
namespace L2
open PySem PySem.Spec
end L2
set_option Elab.async false
set_option linter.all false
set_option maxRecDepth 100000
namespace L2
open PySem PySem.Spec PyProof PyProof.Rows
section
variable {prog : Program} {w : World} {A : Around} {E : Value → Shared → Prop} {s : Shared}
end
abbrev zTa (h : Heap) (l : Addr) : Heap := h.push { cls := .type "tuple_iterator", data := .fields #[.ref l, .int 0 0] }
abbrev zTb (h : Heap) (l m : Addr) : Heap := (zTa h l).push { cls := .type "list_iterator", data := .fields #[.ref m, .int 0 0] }
abbrev zTc (h : Heap) (l m : Addr) : Heap := (zTb h l m).push { cls := .type "tuple", data := .seq #[.ref h.objs.size, .ref (zTa h l).objs.size] }
abbrev zTd (h : Heap) (l m : Addr) : Heap := (zTc h l m).push { cls := .type "tuple", data := .seq #[.none, .none] }
abbrev zTe (h : Heap) (l m : Addr) : Heap := (zTd h l m).push { cls := .type "zip", data := .fields #[.none, .bool false, .bool false, .ref (zTb h l m).objs.size, .ref (zTc h l m).objs.size] }
def ItzT (K : PySem.W.Frag) (a b : Addr) : It :=
  ⟨fun i H => ∃ xs x ys y, SqT K H a xs ∧ xs[i]? = some x ∧ SqL K H b ys ∧ ys[i]? = some y, fun i H v H' => ∃ t x y, H t = none ∧ v = .ref t ∧ H' = upd H t (.tup [x, y]) ∧ (∀ xs, SqT K H a xs → xs[i]? = some x) ∧ ∀ ys, SqL K H b ys → ys[i]? = some y,
    fun i H => ∃ xs, SqT K H a xs ∧ xs.length ≤ i⟩
section
variable {X : Cx}
def iZipT (K : PySem.W.Frag) (ta : TA) : TI := fun σ H R => ta σ H fun vs H1 => ∃ a b xs ys, vs = [.ref a, .ref b] ∧ SqT K H1 a xs ∧ SqL K H1 b ys ∧ R (ItzT K a b) H1
end
end L2
set_option linter.all false
set_option maxRecDepth 100000
namespace L2
open PySem
end L2
local macro_rules | `(tactic| tm_at "rd1") => `(tactic| first
  | ((with_reducible refine L2.rd_dget1 ?_))
  | ((with_reducible refine L2.rd_iItems ?_))
  | ((with_reducible refine L2.rd_sortV ?_))
  | ((with_reducible refine L2.rd_iZipT ?_)))
set_option linter.all false
set_option maxRecDepth 100000
namespace Law
open PySem L2 Ring
def fcl (n : Nat) (ds : List Int) : Seats := ds.foldl (fcome n (hm n)) (List.replicate n none)
def acl (n : Nat) (ds : List Int) : Seats := ds.foldl (comes n (hm n)) (List.replicate n none)
def spFirst (K : PySem.W.Frag) (NG TW FU : Addr) : Sp := fun vs H Q E => (∃ (a : Addr) (xs : List V) (n : Int), vs = [.ref a, .int n] ∧ SqL K H a xs ∧ BadL K H xs ∧ E (.ref NG) none H) ∨
  (∃ (a : Addr) (ds : List Int) (n : Nat), vs = [.ref a, .int (n : Int)] ∧ SqL K H a (ds.map V.int) ∧ Gs ds ∧ ds.length ≤ 1024 ∧ 2 ≤ n ∧ n ≤ 1024 ∧ ∀ H', Same H H' → (¬ ds.Nodup → E (.ref TW) none H') ∧ (ds.Nodup → n ≤ ds.length → E (.ref FU) none H') ∧
    (ds.Nodup → ds.length < n → ∀ (l : Addr), H l = none → H' l = some (.lst (svs (fcl n ds))) → Q (.ref l) H'))
end Law
set_option Elab.async false
set_option linter.all false
set_option maxRecDepth 100000
namespace L2
open PySem PySem.Spec PyProof.Rows
structure MethD (K : PySem.W.Frag) (C : Addr) (m qual : Str) (st : Stmt) (ps : List Str) (f : Addr) (fd : FuncData) : Prop where
  F : Fun K m qual st f fd
  b : Binds K fd ps []
  me : Meth K C m f
structure InitD (K : PySem.W.Frag) (C : Addr) (qual : Str) (st : Stmt) (ps : List Str) (kn : Str) (d : Int) (f : Addr) (fd : FuncData) : Prop where
  ex : ∃ (oc : Value) (od : Option Addr) (dV kV doc pm : Value) (an : Option Addr) (cdv ct : Value) (osl : Array (Option Value)),
    fd = PySem.W.fnOf "__init__" qual (defArgs st) (defBody st) (defScope st) dV kV doc pm an cdv ct ∧ K.lookup f = some ⟨oc, od, .func fd, osl⟩ ∧ PySem.W.codeIn K cdv qual = true
  made : Mk K C f
  b : Binds K fd ps []
  b1 : ∃ t, Binds K fd ps [.int d t]
  bk : ∀ (s : Shared) (u v : Value), K.In s.heap → BindsTo s fd ⟨[u], [(kn, v)]⟩ (ps.zip [u, v])
section
variable {P : Program} {w : World} {K : PySem.W.Frag} {mg : Str → Option Value} {base : Heap}
theorem InitD.okX {C : Addr} {qual kn : Str} {d : Int} {st : Stmt} {f : Addr} {fd : FuncData} {N ps : List Str} {k : Nat} {sp : Sp} (F : InitD K C qual st ps kn d f fd) (S : FnScope N ps (defScope st)) (len : ∀ vs H Q E, sp vs H Q E → vs.length = ps.length)
    (hbody : ∀ (cdv : Value) (A : Around) (outer : List Env) (s : Shared) (H : Hp) (vs : List V) (Q : VK) (E : XK), Room k (A.deeper (envOfC qual (defScope st) s.heap.objs.size f cdv)) → sp vs H Q E →
      ∃ t : TSX, PSsX (cxOf (CXr P w) P w K mg base N qual (defScope st) f cdv A outer s H E) (defBody st) t ∧ t { nx := fun _ H' => Q .non H', rt := Q } (fun c _ H' => E c none H') (start N vs) H) : FnOk P w K mg base (CXr P w) (k + 1) f fd ps sp := by
  obtain ⟨oc, od, dV, kV, doc, pm, an, cdv, ct, osl, rfl, lk, hcd⟩ := F.ex
  refine fn_of lk hcd S len fun A outer s H vs Q E hr hsp => ?_
  obtain ⟨t, h, q⟩ := hbody cdv A outer s H vs Q E hr hsp
  refine ⟨fun D σ H' => t D (fun c _ H' => E c none H') σ H', fun pins s1 σ H1 D I hw => ?_, q⟩
  refine wpAny_mono (h pins s1 σ H1 D _ I hw) (fun _ _ z => z) fun e s2 z => ?_
  show wpAny (model P w) _ (leaving _ e) _ _ s2
  unfold leaving
  refine wpAny_bind (wpAny_mono z (fun _ s3 z3 => ?_) fun _ _ z => z.elim)
  obtain ⟨a, cls, a0, σ', H', B, rfl, I', hh, C, na, q'⟩ := z3
  refine wpAny_landsW hh fun h' fl up => ?_
  have I2 := I'.flown (t' := s3.toks) rfl C hh.1 fl.1 up
  obtain ⟨k1, k2, ⟨_, _, k3⟩, k4⟩ := fl
  exact ⟨a, cls, a0, H', B, rfl, I2.os, I2.bare, I2.base, I2.hok, ⟨k1, k2, k3, k4⟩, na, C.old, C.trk, q'⟩
end
section
variable {X : Cx} {e : Expr} {pos : Pos}
def tMethX (C : Addr) (m : Str) (sp : Sp) (to : TE) (ta : TA) : St → Hp → VK → (Value → Hp → Prop) → Prop := fun σ H Q E => to σ H fun x H1 => ∃ a dx fs, x = .ref a ∧ H1 a = some (.ins C dx fs) ∧ fs.lookup m = none ∧ ta σ H1 fun vs H2 => sp (x :: vs) H2 Q fun c _ H' => E c H'
theorem pex_methD {C f : Addr} {m qual : Str} {st : Stmt} {fd : FuncData} {k : Nat} {ps : List Str} {sp : Sp} {o : Expr} {es : List Expr} {to : TE} {ta : TA} {apos : Pos} {pl : Sem Bool} (ow : OwnFr X) (c : Cls X.K C) (M : MethD X.K C m qual st ps f fd) (G : FnOk X.prog X.w X.K X.mg X.base (CXr X.prog X.w) k f fd ps sp) (hr : Room k X.A) (ho : PE X.nox o to) (ha : PA X.nox (e :: es) ta)
    (hp : plainE e = true := by rfl) (hps : es.all plainE = true := by rfl)
    (ht : eval (.Call (.Attribute o m apos) (e :: es) [] pos) X.env = (do
      let ov ← eval o X.env
      standAt apos.atName
      let (f, first) ← holding [ov] (getMethod ov m pl)
      callWith pos f first (backTo pos (starEach (e :: es) X.env)) (backToKw pos (keywordEach [] X.env))) := by rfl) :
    PEX X (.Call (.Attribute o m apos) (e :: es) [] pos) (tMethX C m sp to ta) := pex_meth ow ho c M.me G hr M.b ha hp hps ht
theorem pe_methN {C f : Addr} {m qual : Str} {st : Stmt} {fd : FuncData} {k : Nat} {ps : List Str} {sp : Sp} {o : Expr} {es : List Expr} {to : TE} {ta : TA} {apos : Pos} {pl : Sem Bool} (c : Cls X.K C) (M : MethD X.K C m qual st ps f fd) (G : FnOk X.prog X.w X.K X.mg X.base (CXr X.prog X.w) k f fd ps sp) (hr : Room k X.A) (ho : PE X o to) (ha : PA X (e :: es) ta)
    (hp : plainE e = true := by rfl) (hps : es.all plainE = true := by rfl)
    (ht : eval (.Call (.Attribute o m apos) (e :: es) [] pos) X.env = (do
      let ov ← eval o X.env
      standAt apos.atName
      let (f, first) ← holding [ov] (getMethod ov m pl)
      callWith pos f first (backTo pos (starEach (e :: es) X.env)) (backToKw pos (keywordEach [] X.env))) := by rfl) :
    PE X (.Call (.Attribute o m apos) (e :: es) [] pos) (tMeth C m sp [] E0 to ta) := pe_meth ho c M.me G hr M.b .nil passN ha (starEach_plain hp _ _) (starAny_plain hps _ _) ht
theorem pe_methD0 {C f : Addr} {m qual : Str} {st : Stmt} {fd : FuncData} {k : Nat} {ps : List Str} {sp : Sp} {o : Expr} {to : TE} {apos : Pos} {pl : Sem Bool} (c : Cls X.K C) (M : MethD X.K C m qual st ps f fd) (G : FnOk X.prog X.w X.K X.mg X.base CX0 k f fd ps sp) (hr : Room k X.A) (ho : PE X o to)
    (ht : eval (.Call (.Attribute o m apos) [] [] pos) X.env = (do
      let ov ← eval o X.env
      standAt apos.atName
      let (f, first) ← holding [ov] (getMethod ov m pl)
      callWith pos f first (backTo pos (starEach [] X.env)) (backToKw pos (keywordEach [] X.env))) := by rfl) :
    PE X (.Call (.Attribute o m apos) [] [] pos) (tMeth C m sp [] E0 to tNil) := pe_meth0 ho c M.me G hr M.b .nil pass0 ht
theorem pe_makeN {C f : Addr} {x qual kn : Str} {d : Int} {st : Stmt} {fd : FuncData} {k : Nat} {ps : List Str} {sp : Sp} {p : Pos} {es : List Expr} {ta : TA} (M : InitD X.K C qual st ps kn d f fd) (G : FnOk X.prog X.w X.K X.mg X.base (CXr X.prog X.w) k f fd ps sp) (hr : Room (k + 1) X.A) (hm : X.mg x = some (.ref C)) (ha : PA X (e :: es) ta)
    (hp : plainE e = true := by rfl) (hps : es.all plainE = true := by rfl) (hg : Gl X x := by rfl) (hdb : (x == ("__debug__" : Str)) = false := by decide) :
    PE X (.Call (.Name x p) (e :: es) [] pos) (tMake C sp [] E0 ta) := pe_make M.made G hr hg hm M.b .nil passN ha hdb (starEach_plain hp _ _) (starAny_plain hps _ _)
theorem pe_makeN0 {C f : Addr} {x qual kn : Str} {d : Int} {st : Stmt} {fd : FuncData} {k : Nat} {ps : List Str} {sp : Sp} {p : Pos} (M : InitD X.K C qual st ps kn d f fd) (G : FnOk X.prog X.w X.K X.mg X.base (CXr X.prog X.w) k f fd ps sp) (hr : Room (k + 1) X.A) (hm : X.mg x = some (.ref C))
    (hg : Gl X x := by rfl) (hdb : (x == ("__debug__" : Str)) = false := by decide) :
    PE X (.Call (.Name x p) [] [] pos) (tMake C sp [.int d] E0 tNil) := by
  obtain ⟨t, hb⟩ := M.b1
  exact pe_make0 M.made G hr hg hm hb (.cons ⟨t, rfl⟩ .nil) passN hdb
end
section
variable {σ : St} {H : Hp} {Q : VK} {D : Ends} {K : PySem.W.Frag}
theorem rd_fld {ta : TE} {f : Str} (q : ta σ H fun x H1 => ∃ a C dx fs v, x = .ref a ∧ H1 a = some (.ins C dx fs) ∧ Cls K C ∧ NoAttr K C f ∧ fs.lookup f = some v ∧ Q v H1) : tFld K ta f σ H Q := q
theorem rd_sfld {ta tv : TE} {f : Str} (q : tv σ H fun y H1 => ta σ H1 fun x H2 => ∃ a C dx fs, x = .ref a ∧ H2 a = some (.ins C dx fs) ∧ Cls K C ∧ NoAttr K C f ∧ fs.length < 1000 ∧ D.nx σ (upd H2 a (.ins C dx (putF f y fs)))) : sFld K ta tv f D σ H := q
theorem rd_meth {C : Addr} {m : Str} {sp : Sp} {E : XK} {ta : TE} {t : TA} (q : ta σ H fun x H1 => ∃ a dx fs, x = .ref a ∧ H1 a = some (.ins C dx fs) ∧ fs.lookup m = none ∧ t σ H1 fun vs H2 => sp (x :: vs) H2 Q E) : tMeth C m sp [] E ta t σ H Q := by
  unfold tMeth
  simp only [List.append_nil]
  exact q
theorem rd_methX {C : Addr} {m : Str} {sp : Sp} {to : TE} {ta : TA} {E : Value → Hp → Prop} (q : to σ H fun x H1 => ∃ a dx fs, x = .ref a ∧ H1 a = some (.ins C dx fs) ∧ fs.lookup m = none ∧ ta σ H1 fun vs H2 => sp (x :: vs) H2 Q fun c _ H' => E c H') : tMethX C m sp to ta σ H Q E := q
theorem rd_make {C : Addr} {sp : Sp} {E : XK} {t : TA} (q : t σ H fun vs H1 => ∀ x dx, H1 x = none → H1 dx = none → dx ≠ x → sp (.ref x :: vs) (upd (upd H1 dx (.own x)) x (.ins C dx [])) (fun v H2 => v = .non ∧ Q (.ref x) H2) E) : tMake C sp [] E t σ H Q := by
  unfold tMake
  simp only [List.append_nil]
  exact q
theorem rd_make0 {C : Addr} {sp : Sp} {E : XK} {d : V} (q : ∀ x dx, H x = none → H dx = none → dx ≠ x → sp [.ref x, d] (upd (upd H dx (.own x)) x (.ins C dx [])) (fun v H2 => v = .non ∧ Q (.ref x) H2) E) : tMake C sp [d] E tNil σ H Q := q
end
end L2
set_option linter.all false
set_option maxRecDepth 100000
namespace L2
end L2
local macro_rules | `(tactic| tm_at "rd1") => `(tactic| first
  | ((with_reducible refine L2.rd_fld ?_))
  | ((with_reducible refine L2.rd_sfld ?_))
  | ((with_reducible refine L2.rd_meth ?_))
  | ((with_reducible refine L2.rd_methX ?_))
  | ((with_reducible refine L2.rd_make ?_))
  | ((with_reducible refine L2.rd_make0 ?_)))
set_option linter.all false
set_option maxRecDepth 100000
namespace Law
open PySem L2 Ring
def rmF (c : Nat) : Nat := if 4 * c ≤ 24 then 8 else if 4 * c ≤ 48 then 16 else if 4 * c ≤ 96 then 32 else if 4 * c ≤ 192 then 64 else if 4 * c ≤ 384 then 128 else 256
theorem rmF_ok {c : Nat} (h : c ≤ 192) : 4 * c ≤ 3 * rmF c ∧ 8 ≤ rmF c ∧ rmF c ≤ 256 := by
  unfold rmF
  (repeat' split) <;> omega
def rings : List V := [.int 8, .int 16, .int 32, .int 64, .int 128, .int 256]
def spRoom : Sp := fun vs H Q _ => ∃ c : Nat, vs = [.int (c : Int)] ∧ c ≤ 192 ∧ Q (.int (rmF c : Int)) H
structure Fit (t : Seats) : Prop where
  st : Settled t.length (hm t.length) t
  rm : t.length = rmF (who t).length
  gs : Gs (who t)
  le : (who t).length ≤ 192
theorem Fit.len {t : Seats} (F : Fit t) : 8 ≤ t.length ∧ t.length ≤ 256 ∧ 4 * (who t).length ≤ 3 * t.length := by
  have := rmF_ok F.le
  rw [← F.rm] at this
  omega
theorem Fit.none {t : Seats} (F : Fit t) : none ∈ t := settled_none F.st
theorem fit0 : Fit (List.replicate 8 none) where
  st := ⟨by simp, loc_rep, by show (who (List.replicate 8 none)).length < _; rw [who_rep]; simp⟩
  rm := by rw [who_rep]; rfl
  gs := by rw [who_rep]; exact fun g hg => by cases hg
  le := by rw [who_rep]; simp
def hf (m : Int) (l : Addr) : List (Str × V) := putF "seats" (.ref l) (putF "most" (.int m) [])
theorem ms : ¬ (("most" : Str) = "seats") := by decide +kernel
theorem hf_eq (m : Int) (l : Addr) : hf m l = ([("most", V.int m), ("seats", V.ref l)] : List (Str × V)) := by
  show (if ("most" : Str) = "seats" then [(("most" : Str), V.ref l)] else (("most" : Str), V.int m) :: putF "seats" (V.ref l) []) = ([("most", V.int m), ("seats", V.ref l)] : List (Str × V))
  rw [if_neg ms]
  rfl
theorem hf_most (m : Int) (l : Addr) : (hf m l).lookup ("most" : Str) = some (.int m) := by
  unfold hf
  rw [lookup_putF, if_neg ms, lookup_putF, if_pos rfl]
theorem hf_seats (m : Int) (l : Addr) : (hf m l).lookup ("seats" : Str) = some (.ref l) := by
  unfold hf
  rw [lookup_putF, if_pos rfl]
theorem hf_no {m : Int} {l : Addr} {x : Str} (h1 : ¬ x = "seats") (h2 : ¬ x = "most") : (hf m l).lookup x = none := by
  unfold hf
  rw [lookup_putF, if_neg h1, lookup_putF, if_neg h2]
  rfl
theorem hf_put (m : Int) (l l' : Addr) : putF "seats" (.ref l') (hf m l) = hf m l' := by
  rw [hf_eq, hf_eq]
  show (if ("most" : Str) = "seats" then _ else (("most" : Str), V.int m) :: (if ("seats" : Str) = "seats" then [(("seats" : Str), V.ref l')] else _)) = ([("most", V.int m), ("seats", V.ref l')] : List (Str × V))
  rw [if_neg ms, if_pos rfl]
theorem hf_few (m : Int) (l : Addr) : (hf m l).length < 1000 := by
  rw [hf_eq]
  show 2 < 1000
  decide
structure HouseAt (C : Addr) (H : Hp) (p : Addr) (m : Int) (t : Seats) : Prop where
  ob : ∃ dx l, H p = some (.ins C dx (hf m l)) ∧ H l = some (.lst (svs t))
theorem HouseAt.same {C : Addr} {H H' : Hp} {p : Addr} {m : Int} {t : Seats} (h : HouseAt C H p m t) (s : Same H H') : HouseAt C H' p m t := by
  obtain ⟨dx, l, h1, h2⟩ := h.ob
  exact ⟨dx, l, s _ _ h1, s _ _ h2⟩
def Frm (p : Addr) (H H' : Hp) : Prop := ∀ b o, b ≠ p → H b = some o → H' b = some o
theorem Frm.of {p : Addr} {H H' : Hp} (s : Same H H') : Frm p H H' := fun b o _ e => s b o e
theorem Frm.trans {p : Addr} {H H' H'' : Hp} (a : Frm p H H') (b : Frm p H' H'') : Frm p H H'' := fun c o n e => b c o n (a c o n e)
theorem HouseAt.ne {C : Addr} {H : Hp} {p a : Addr} {m : Int} {t : Seats} {xs : List V} (h : HouseAt C H p m t) (e : H a = some (.lst xs)) : a ≠ p := fun z => by
  obtain ⟨dx, l, h1, h2⟩ := h.ob
  rw [z, h1] at e
  cases e
theorem HouseAt.ins {C : Addr} {H : Hp} {p : Addr} {m : Int} {t : Seats} (h : HouseAt C H p m t) : ∃ dx fs, H p = some (.ins C dx fs) := by
  obtain ⟨dx, l, h1, h2⟩ := h.ob
  exact ⟨dx, _, h1⟩
def spAllIn : Sp := fun vs H Q _ => ∃ (a : Addr) (t : Seats), vs = [.ref a] ∧ H a = some (.lst (svs t)) ∧ t.length ≤ 1024 ∧ ∀ (l : Addr) (H' : Hp), Same H H' → H l = none → H' l = some (.lst ((who t).map V.int)) → Q (.ref l) H'
def spFitted : Sp := fun vs H Q _ => ∃ (a : Addr) (u : Seats), vs = [.ref a] ∧ H a = some (.lst (svs u)) ∧ Settled u.length (hm u.length) u ∧ u.length ≤ 1024 ∧ Gs (who u) ∧ (who u).length ≤ 192 ∧
  ∀ (l : Addr) (u' : Seats) (H' : Hp), Same H H' → H' l = some (.lst (svs u')) → Fit u' → (who u').Perm (who u) → Q (.ref l) H'
def spHInit (K : PySem.W.Frag) (C NS : Addr) : Sp := fun vs H Q E => (∃ (p dx : Addr) (m : Int), vs = [.ref p, .int m] ∧ H p = some (.ins C dx []) ∧ 0 ≤ m ∧ m ≤ 192 ∧ ∀ H', Frm p H H' → HouseAt C H' p m (List.replicate 8 none) → Q .non H') ∨
  (∃ (p : Addr) (x : V), vs = [.ref p, x] ∧ (Odd K H x ∨ ∃ i : Int, x = .int i ∧ ¬ (0 ≤ i ∧ i ≤ 192)) ∧ E (.ref NS) none H)
def spSeatOf (K : PySem.W.Frag) (C NG : Addr) : Sp := fun vs H Q E => (∃ (p : Addr) (m : Int) (t : Seats) (g : Int), vs = [.ref p, .int g] ∧ HouseAt C H p m t ∧ none ∈ t ∧ 0 ≤ g ∧ g < P60 ∧ Q (placeV t g) H) ∨
  (∃ (p : Addr) (m : Int) (t : Seats) (x : V), vs = [.ref p, x] ∧ HouseAt C H p m t ∧ Bad K H x ∧ E (.ref NG) none H)
def spHRow (C : Addr) : Sp := fun vs H Q _ => ∃ (p : Addr) (m : Int) (t : Seats), vs = [.ref p] ∧ HouseAt C H p m t ∧ ∀ l, H l = none → Q (.ref l) (upd H l (.lst (svs t)))
def spHMany (C : Addr) : Sp := fun vs H Q _ => ∃ (p : Addr) (m : Int) (t : Seats), vs = [.ref p] ∧ HouseAt C H p m t ∧ t.length ≤ 1024 ∧ ∀ H', Same H H' → Q (.int ((who t).length : Int)) H'
def spHGuests (C : Addr) : Sp := fun vs H Q _ => ∃ (p : Addr) (m : Int) (t : Seats), vs = [.ref p] ∧ HouseAt C H p m t ∧ t.length ≤ 1024 ∧ (who t).length < 64 ∧ ∀ (l : Addr) (ns : List Int) (H' : Hp), Same H H' → H l = none → H' l = some (.lst (ns.map V.int)) → ns.Perm (who t) → ns.Pairwise (· ≤ ·) → Q (.ref l) H'
def spCome (K : PySem.W.Frag) (C NG TW FU : Addr) : Sp := fun vs H Q E => (∃ (p : Addr) (m : Int) (t : Seats) (x : V), vs = [.ref p, x] ∧ HouseAt C H p m t ∧ Bad K H x ∧ E (.ref NG) none H) ∨
  (∃ (p : Addr) (m : Int) (t : Seats) (g : Int), vs = [.ref p, .int g] ∧ HouseAt C H p m t ∧ Fit t ∧ m ≤ 192 ∧ 0 ≤ g ∧ g < P60 ∧
    (g ∈ who t → E (.ref TW) none H) ∧ (g ∉ who t → m ≤ ((who t).length : Int) → ∀ H', Same H H' → E (.ref FU) none H') ∧
    (g ∉ who t → ((who t).length : Int) < m → ∀ (t' : Seats) (H' : Hp), Frm p H H' → HouseAt C H' p m t' → Fit t' → (who t').Perm (g :: who t) → Q (placeV t' g) H'))
def spGo (K : PySem.W.Frag) (C NG AW : Addr) : Sp := fun vs H Q E => (∃ (p : Addr) (m : Int) (t : Seats) (x : V), vs = [.ref p, x] ∧ HouseAt C H p m t ∧ Bad K H x ∧ E (.ref NG) none H) ∨
  (∃ (p : Addr) (m : Int) (t : Seats) (g : Int), vs = [.ref p, .int g] ∧ HouseAt C H p m t ∧ Fit t ∧ 0 ≤ g ∧ g < P60 ∧ (g ∉ who t → E (.ref AW) none H) ∧
    (g ∈ who t → ∀ (t' : Seats) (H' : Hp), Frm p H H' → HouseAt C H' p m t' → Fit t' → (∀ R, (who t).Perm (g :: R) → (who t').Perm R) → Q (placeV t g) H'))
end Law
set_option Elab.async false
set_option linter.all false
set_option maxRecDepth 100000
namespace Tim
open PySem PyProof.Rows
def Seg (f : Nat → Int) (lo hi : Nat) : Prop := ∀ i j, lo ≤ i → i ≤ j → j < hi → f i ≤ f j
def Dwn (f : Nat → Int) (lo hi : Nat) : Prop := ∀ i j, lo ≤ i → i ≤ j → j < hi → f j ≤ f i
structure TB (a₀ : Array Keyed) (p : Array (Nat × Nat × Nat)) (st : SortSt) : Prop where
  perm : (arrOf st).Perm a₀
  kind : kindOf st = oneType'
  failed : failedOf st = none
  pend : pendingOf st = p
theorem TB.sb {a₀ : Array Keyed} {p : Array (Nat × Nat × Nat)} {st : SortSt} (h : TB a₀ p st) : SBase a₀ (setPending st #[]) := ⟨h.perm, h.kind, h.failed, rfl⟩
theorem TB.size {a₀ : Array Keyed} {p : Array (Nat × Nat × Nat)} {st : SortSt} (h : TB a₀ p st) : (arrOf st).size = a₀.size := h.perm.size_eq
theorem TB.arr {a₀ : Array Keyed} {p : Array (Nat × Nat × Nat)} {st : SortSt} (h : TB a₀ p st) {xs : Array Keyed} (hp : xs.Perm (arrOf st)) : TB a₀ p (setArr st xs) := ⟨hp.trans h.perm, h.kind, h.failed, h.pend⟩
section
variable {prog : Program} {w : World} {A : Around} {E : Value → Shared → Prop} {s : Shared} {a₀ : Array Keyed} {p : Array (Nat × Nat × Nat)}
theorem wp_lt {st : SortSt} {i j : Nat} {Q : Option Bool → SortSt → Prop} (hB : TB a₀ p st) (h0 : IntKeys a₀) (hi : i < a₀.size) (hj : j < a₀.size)
    (h : Q (some (decide (K (arrOf st) i < K (arrOf st) j))) st) : wpS (model prog w) A E s (ltAt' i j) Q st := by
  obtain ⟨t, x, e1⟩ := hB.sb.at h0 hi
  obtain ⟨u, y, e2⟩ := hB.sb.at h0 hj
  exact wpS_ltAt hB.kind e1 e2 h
theorem wp_rev {st : SortSt} {i j : Nat} {Q : Unit → SortSt → Prop} (h : Q () (setArr st (mirror (arrOf st) i j ((j - i) / 2)))) : wpS (model prog w) A E s (reverseSlice' i j) Q st := by
  rw [reverseSlice'_eq]
  exact wpS_modify h
end
def ascL (lo a nrem : Nat) : StateT SortSt Sem AscSt := forIn [a:nrem] ((none, a) : AscSt) fun _ c => do
  let x ← ltAt' (lo + c.snd) (lo + c.snd - 1)
  match x with
  | some smaller => if smaller = true then pure (ForInStep.done (none, c.snd)) else pure (ForInStep.yield (none, c.snd + 1))
  | _ => pure (ForInStep.done (some none, c.snd))
def tailL (lo n nrem : Nat) : StateT SortSt Sem (Option Nat) := do
  reverseSlice' lo (lo + n)
  let c ← ascL lo n nrem
  match c.fst with
  | some r => pure r
  | none => pure (some c.snd)
def dscL (lo n nrem : Nat) : StateT SortSt Sem DescSt := forIn [n:nrem] ((none, n, 0) : DescSt) fun _ c => do
  let x ← ltAt' (lo + c.snd.fst) (lo + c.snd.fst - 1)
  match x with
  | some smaller =>
    if smaller = true then
      if c.snd.snd > 0 then do
        reverseSlice' (lo + c.snd.fst - (c.snd.snd + 1)) (lo + c.snd.fst)
        pure (ForInStep.yield (none, c.snd.fst + 1, 0))
      else pure (ForInStep.yield (none, c.snd.fst + 1, 0))
    else do
      let x ← ltAt' (lo + c.snd.fst - 1) (lo + c.snd.fst)
      match x with
      | some larger =>
        if larger = true then pure (ForInStep.done (none, c.snd.fst, c.snd.snd))
        else pure (ForInStep.yield (none, c.snd.fst + 1, c.snd.snd + 1))
      | _ => pure (ForInStep.done (some none, c.snd.fst, c.snd.snd))
  | _ => pure (ForInStep.done (some none, c.snd.fst, c.snd.snd))
def dscP (lo n nrem : Nat) : StateT SortSt Sem (Option Nat) := do
  liftM (rule "list.sort.descending-run")
  let c ← dscL lo (n + 1) nrem
  match c.fst with
  | some r => pure r
  | none =>
    if c.snd.snd > 0 then do
      reverseSlice' (lo + c.snd.fst - (c.snd.snd + 1)) (lo + c.snd.fst)
      tailL lo c.snd.fst nrem
    else tailL lo c.snd.fst nrem
theorem countRun_lo (lo nrem : Nat) : countRun' lo nrem = (do
    let c ← ascL lo 1 nrem
    match c.fst with
    | some r => pure r
    | none =>
      if (c.snd == nrem) = true then pure (some c.snd)
      else if c.snd > 1 then do
        let x ← ltAt' lo (lo + c.snd - 1)
        match x with
        | some rose => if rose = true then pure (some c.snd) else do
            reverseSlice' lo (lo + c.snd)
            dscP lo c.snd nrem
        | _ => pure none
      else dscP lo c.snd nrem) := by
  rw [countRun'_eq]
  dsimp only
  unfold dscP tailL dscL ascL
  congr 1
  funext c
  obtain ⟨r, n⟩ := c
  cases r with
  | some r => rfl
  | none =>
    dsimp only
    split
    · rfl
    · split
      · congr 1
        funext x
        cases x with
        | none => rfl
        | some rose =>
          dsimp only
          split
          · rfl
          · congr 1
            funext _
            congr 1
            funext _
            congr 1
            funext c2
            obtain ⟨r2, n2, q2⟩ := c2
            cases r2 with
            | some r2 => rfl
            | none =>
              dsimp only
              split
              · congr 1
                funext _
                congr 1
                funext _
                congr 1
                funext c3
                obtain ⟨r3, n3⟩ := c3
                cases r3 <;> rfl
              · congr 1
                funext _
                congr 1
                funext c3
                obtain ⟨r3, n3⟩ := c3
                cases r3 <;> rfl
      · congr 1
        funext _
        congr 1
        funext c2
        obtain ⟨r2, n2, q2⟩ := c2
        cases r2 with
        | some r2 => rfl
        | none =>
          dsimp only
          split
          · congr 1
            funext _
            congr 1
            funext _
            congr 1
            funext c3
            obtain ⟨r3, n3⟩ := c3
            cases r3 <;> rfl
          · congr 1
            funext _
            congr 1
            funext c3
            obtain ⟨r3, n3⟩ := c3
            cases r3 <;> rfl
section
variable {prog : Program} {w : World} {A : Around} {E : Value → Shared → Prop} {s : Shared} {a₀ : Array Keyed} {p : Array (Nat × Nat × Nat)}
theorem wp_asc {st : SortSt} {lo a nrem : Nat} {Q : AscSt → SortSt → Prop} (h0 : IntKeys a₀) (hn : lo + nrem ≤ a₀.size) (ha : 1 ≤ a) (han : a ≤ nrem) (hB : TB a₀ p st) (hs : Seg (K (arrOf st)) lo (lo + a))
    (h : ∀ n, a ≤ n → n ≤ nrem → Seg (K (arrOf st)) lo (lo + n) → (n = nrem ∨ K (arrOf st) (lo + n) < K (arrOf st) (lo + n - 1)) → Q (none, n) st) : wpS (model prog w) A E s (ascL lo a nrem) Q st := by
  unfold ascL
  refine wpS_forRange (I := fun x c st' => st' = st ∧ c = (none, x) ∧ Seg (K (arrOf st)) lo (lo + x)) ?step ?fin ⟨rfl, rfl, hs⟩
  case fin =>
    rintro c st' ⟨rfl, rfl, hs'⟩
    rw [show max a nrem = nrem by omega] at hs' ⊢
    exact h nrem han (Nat.le_refl _) hs' (.inl rfl)
  case step =>
    rintro x c st' hax hxn ⟨rfl, rfl, hs'⟩
    dsimp only
    refine wpS_bind (wp_lt hB h0 (by omega) (by omega) ?_)
    by_cases hless : K (arrOf st') (lo + x) < K (arrOf st') (lo + x - 1)
    · simp only [hless, decide_true, if_true]
      exact wpS_pure (h x hax (by omega) hs' (.inr hless))
    · simp only [hless, decide_false, Bool.false_eq_true, if_false]
      refine wpS_pure ⟨rfl, rfl, fun i j hl hij hj => ?_⟩
      by_cases hjx : j < lo + x
      · exact hs' i j hl hij hjx
      · have hj' : j = lo + x := by omega
        subst hj'
        by_cases hi' : i = lo + x
        · subst hi'; exact Int.le_refl _
        · exact Int.le_trans (hs' i (lo + x - 1) hl (by omega) (by omega)) (Int.not_lt.mp hless)
theorem wp_tail {st : SortSt} {lo n nrem : Nat} {Q : Option Nat → SortSt → Prop} (h0 : IntKeys a₀) (hn : lo + nrem ≤ a₀.size) (h1 : 1 ≤ n) (hnn : n ≤ nrem) (hB : TB a₀ p st) (hs : Dwn (K (arrOf st)) lo (lo + n))
    (h : ∀ m st', TB a₀ p st' → 1 ≤ m → m ≤ nrem → Seg (K (arrOf st')) lo (lo + m) → (∀ i, i < lo → K (arrOf st') i = K (arrOf st) i) → Q (some m) st') : wpS (model prog w) A E s (tailL lo n nrem) Q st := by
  unfold tailL
  have hsz : lo + n ≤ (arrOf st).size := by rw [hB.size]; omega
  refine wpS_bind (wp_rev ?_)
  have hB' : TB a₀ p (setArr st (mirror (arrOf st) lo (lo + n) ((lo + n - lo) / 2))) := hB.arr (mirror_perm _ _ _ _)
  refine wpS_bind (wp_asc h0 hn h1 hnn hB' ?_ fun m hm1 hm2 hsm _ => wpS_pure (h m _ hB' (by omega) hm2 hsm fun i hi => ?_))
  · intro i j hl hij hj
    show K (mirror (arrOf st) lo (lo + n) ((lo + n - lo) / 2)) i ≤ K (mirror (arrOf st) lo (lo + n) ((lo + n - lo) / 2)) j
    rw [K_mirror hsz, K_mirror hsz, if_pos (by omega), if_pos (by omega)]
    exact hs _ _ (by omega) (by omega) (by omega)
  · show K (mirror (arrOf st) lo (lo + n) ((lo + n - lo) / 2)) i = _
    rw [K_mirror hsz, if_neg (by omega)]
theorem wp_dsc {st : SortSt} {lo n nrem : Nat} {Q : DescSt → SortSt → Prop} (h0 : IntKeys a₀) (hn : lo + nrem ≤ a₀.size) (h1 : 1 ≤ n) (hnn : n ≤ nrem) (hB : TB a₀ p st) (hs : Dwn (K (arrOf st)) lo (lo + n))
    (h : ∀ m neq st', TB a₀ p st' → n ≤ m → m ≤ nrem → Dwn (K (arrOf st')) lo (lo + m) → neq + 1 ≤ m → (∀ i, lo + m - (neq + 1) ≤ i → i < lo + m → K (arrOf st') i = K (arrOf st') (lo + m - 1)) → (∀ i, i < lo → K (arrOf st') i = K (arrOf st) i) → Q (none, m, neq) st') :
    wpS (model prog w) A E s (dscL lo n nrem) Q st := by
  unfold dscL
  refine wpS_forRange (I := fun x c st' => ∃ neq, c = (none, x, neq) ∧ TB a₀ p st' ∧ Dwn (K (arrOf st')) lo (lo + x) ∧ neq + 1 ≤ x ∧
      (∀ i, lo + x - (neq + 1) ≤ i → i < lo + x → K (arrOf st') i = K (arrOf st') (lo + x - 1)) ∧ ∀ i, i < lo → K (arrOf st') i = K (arrOf st) i) ?step ?fin ⟨0, rfl, hB, hs, by omega, fun i h1 h2 => by congr 1; omega, fun _ _ => rfl⟩
  case fin =>
    rintro c st' ⟨neq, rfl, hB', hs', hq, he, hk⟩
    rw [show max n nrem = nrem by omega] at hs' hq he ⊢
    exact h nrem neq st' hB' hnn (Nat.le_refl _) hs' hq he hk
  case step =>
    rintro x c st' hax hxn ⟨neq, rfl, hB', hs', hq, he, hk⟩
    dsimp only
    have hsz : lo + x ≤ (arrOf st').size := by rw [hB'.size]; omega
    refine wpS_bind (wp_lt hB' h0 (by omega) (by omega) ?_)
    by_cases hless : K (arrOf st') (lo + x) < K (arrOf st') (lo + x - 1)
    · simp only [hless, decide_true, if_true]
      have step1 : ∀ xs : Array Keyed, (∀ k, K xs k = K (arrOf st') k) → Dwn (K xs) lo (lo + (x + 1)) := by
        intro xs hk i j hl hij hj
        rw [hk, hk]
        by_cases hjx : j < lo + x
        · exact hs' i j hl hij hjx
        · have hj' : j = lo + x := by omega
          subst hj'
          by_cases hi' : i = lo + x
          · subst hi'; exact Int.le_refl _
          · exact Int.le_trans (Int.le_of_lt hless) (hs' i (lo + x - 1) hl (by omega) (by omega))
      by_cases hneq : neq > 0
      · rw [if_pos hneq]
        have km := K_mirror_equal hsz he
        refine wpS_bind (wp_rev (wpS_pure ⟨0, rfl, hB'.arr (mirror_perm _ _ _ _), step1 _ km, by omega, fun i h1 h2 => by congr 1; omega, fun i hi => (km i).trans (hk i hi)⟩))
      · rw [if_neg hneq]
        exact wpS_pure ⟨0, rfl, hB', step1 _ (fun _ => rfl), by omega, fun i h1 h2 => by congr 1; omega, hk⟩
    · simp only [hless, decide_false, Bool.false_eq_true, if_false]
      refine wpS_bind (wp_lt hB' h0 (by omega) (by omega) ?_)
      by_cases hlarger : K (arrOf st') (lo + x - 1) < K (arrOf st') (lo + x)
      · simp only [hlarger, decide_true, if_true]
        exact wpS_pure (h x neq st' hB' hax (by omega) hs' hq he hk)
      · simp only [hlarger, decide_false, Bool.false_eq_true, if_false]
        have heqx : K (arrOf st') (lo + x) = K (arrOf st') (lo + x - 1) := by omega
        refine wpS_pure ⟨neq + 1, rfl, hB', fun i j hl hij hj => ?_, by omega, fun i h1 h2 => ?_, hk⟩
        · by_cases hjx : j < lo + x
          · exact hs' i j hl hij hjx
          · have hj' : j = lo + x := by omega
            subst hj'
            by_cases hi' : i = lo + x
            · subst hi'; exact Int.le_refl _
            · rw [heqx]; exact hs' i (lo + x - 1) hl (by omega) (by omega)
        · rw [show lo + (x + 1) - 1 = lo + x by omega]
          by_cases hix : i = lo + x
          · subst hix; rfl
          · rw [heqx]; exact he i (by omega) (by omega)
theorem wp_dscP {st : SortSt} {lo n nrem : Nat} {Q : Option Nat → SortSt → Prop} (h0 : IntKeys a₀) (hn : lo + nrem ≤ a₀.size) (hnn : n + 1 ≤ nrem) (hB : TB a₀ p st) (hs : Dwn (K (arrOf st)) lo (lo + (n + 1)))
    (h : ∀ m st', TB a₀ p st' → 1 ≤ m → m ≤ nrem → Seg (K (arrOf st')) lo (lo + m) → (∀ i, i < lo → K (arrOf st') i = K (arrOf st) i) → Q (some m) st') : wpS (model prog w) A E s (dscP lo n nrem) Q st := by
  unfold dscP
  refine wpS_bind (wpS_lift (wpAny_rule ⟨rfl, ?_⟩))
  refine wpS_bind (wp_dsc h0 hn (by omega) hnn hB hs fun m neq st' hB' hm1 hm2 hs' hq he hk => ?_)
  dsimp only
  have hsz : lo + m ≤ (arrOf st').size := by rw [hB'.size]; omega
  by_cases hneq : neq > 0
  · rw [if_pos hneq]
    have km := K_mirror_equal hsz he
    refine wpS_bind (wp_rev (wp_tail h0 hn (by omega) hm2 (hB'.arr (mirror_perm _ _ _ _)) ?_ fun m' st2 b1 b2 b3 b4 b5 => h m' st2 b1 b2 b3 b4 fun i hi => ?_))
    · intro i j hl hij hj
      show K (mirror (arrOf st') _ _ _) j ≤ K (mirror (arrOf st') _ _ _) i
      rw [km, km]
      exact hs' i j hl hij hj
    · exact (b5 i hi).trans ((km i).trans (hk i hi))
  · rw [if_neg hneq]
    exact wp_tail h0 hn (by omega) hm2 hB' hs' fun m' st2 b1 b2 b3 b4 b5 => h m' st2 b1 b2 b3 b4 fun i hi => (b5 i hi).trans (hk i hi)
theorem wp_count {st : SortSt} {lo nrem : Nat} {Q : Option Nat → SortSt → Prop} (h0 : IntKeys a₀) (hn : lo + nrem ≤ a₀.size) (h1 : 1 ≤ nrem) (hB : TB a₀ p st)
    (h : ∀ m st', TB a₀ p st' → 1 ≤ m → m ≤ nrem → Seg (K (arrOf st')) lo (lo + m) → (∀ i, i < lo → K (arrOf st') i = K (arrOf st) i) → Q (some m) st') : wpS (model prog w) A E s (countRun' lo nrem) Q st := by
  rw [countRun_lo]
  refine wpS_bind (wp_asc h0 hn (Nat.le_refl 1) h1 hB (fun i j hl hij hj => by have : i = j := by omega
                                                                               subst this; exact Int.le_refl _) fun n hn1 hn2 hsn hor => ?_)
  dsimp only
  by_cases hnn : n = nrem
  · rw [if_pos (by simpa using hnn)]
    exact wpS_pure (h n st hB hn1 hn2 hsn fun _ _ => rfl)
  · rw [if_neg (by simpa using hnn)]
    have hlt : K (arrOf st) (lo + n) < K (arrOf st) (lo + n - 1) := hor.resolve_left hnn
    by_cases hgt : n > 1
    · rw [if_pos hgt]
      refine wpS_bind (wp_lt hB h0 (by omega) (by omega) ?_)
      by_cases hrose : K (arrOf st) lo < K (arrOf st) (lo + n - 1)
      · simp only [hrose, decide_true, if_true]
        exact wpS_pure (h n st hB hn1 hn2 hsn fun _ _ => rfl)
      · simp only [hrose, decide_false, Bool.false_eq_true, if_false]
        have hsz : lo + n ≤ (arrOf st).size := by rw [hB.size]; omega
        have hall : ∀ k, lo ≤ k → k < lo + n → K (arrOf st) k = K (arrOf st) (lo + n - 1) := by
          intro k hl hk
          have a1 := hsn lo k (by omega) (by omega) hk
          have a2 := hsn k (lo + n - 1) hl (by omega) (by omega)
          omega
        have km := K_mirror_equal hsz hall
        refine wpS_bind (wp_rev (wp_dscP h0 hn (by omega) (hB.arr (mirror_perm _ _ _ _)) ?_ fun m' st2 b1 b2 b3 b4 b5 => h m' st2 b1 b2 b3 b4 fun i hi => (b5 i hi).trans (km i)))
        intro i j hl hij hj
        show K (mirror (arrOf st) _ _ _) j ≤ K (mirror (arrOf st) _ _ _) i
        rw [km, km]
        by_cases hjn : j < lo + n
        · rw [hall i (by omega) (by omega), hall j (by omega) hjn]; exact Int.le_refl _
        · have hj' : j = lo + n := by omega
          subst hj'
          by_cases hi' : i = lo + n
          · subst hi'; exact Int.le_refl _
          · rw [hall i (by omega) (by omega)]; exact Int.le_of_lt hlt
    · rw [if_neg hgt]
      have hn1' : n = 1 := by omega
      subst hn1'
      refine wp_dscP h0 hn (by omega) hB ?_ h
      intro i j hl hij hj
      by_cases hi' : i = j
      · subst hi'; exact Int.le_refl _
      · have hi0 : i = lo := by omega
        have hj1 : j = lo + 1 := by omega
        subst hi0; subst hj1
        exact Int.le_of_lt hlt
theorem wp_bin {st : SortSt} {lo n ok : Nat} {Q : Bool → SortSt → Prop} (h0 : IntKeys a₀) (hn : lo + n ≤ a₀.size) (hok : ok ≤ n) (hB : TB a₀ p st) (hs : Seg (K (arrOf st)) lo (lo + ok))
    (h : ∀ st', TB a₀ p st' → Seg (K (arrOf st')) lo (lo + n) → (∀ i, i < lo → K (arrOf st') i = K (arrOf st) i) → Q true st') : wpS (model prog w) A E s (binarySort' lo n ok) Q st := by
  rw [binarySort'_eq]
  refine wpS_bind (wpS_mono (wpS_forRange (I := fun k c st' => c = (none, ()) ∧ TB a₀ p st' ∧ Seg (K (arrOf st')) lo (lo + min k n) ∧ ∀ i, i < lo → K (arrOf st') i = K (arrOf st) i)
    (Q := fun c st' => c = (none, ()) ∧ TB a₀ p st' ∧ Seg (K (arrOf st')) lo (lo + n) ∧ ∀ i, i < lo → K (arrOf st') i = K (arrOf st) i) ?step ?fin ?init) ?post)
  case post =>
    rintro c st' ⟨rfl, hB', hs', hk⟩
    exact wpS_pure (h st' hB' hs' hk)
  case init =>
    refine ⟨rfl, hB, fun i j hl hij hj => ?_, fun _ _ => rfl⟩
    by_cases h1 : ok = 0
    · have : i = j := by omega
      subst this; exact Int.le_refl _
    · exact hs i j hl hij (by omega)
  case fin =>
    rintro c st' ⟨hc, hB', hs', hk⟩
    refine ⟨hc, hB', ?_, hk⟩
    rwa [show min (max (max ok 1) n) n = n by omega] at hs'
  case step =>
    rintro k c st' hak hkn ⟨rfl, hB', hs', hk0⟩
    rw [show min k n = k by omega] at hs'
    have hk : lo + k < a₀.size := by omega
    refine wpS_bind (wpS_mono (wpS_forRange (I := fun x c st'' => st'' = st' ∧ ∃ l r, c = (none, l, r) ∧ l ≤ r ∧ r ≤ k ∧ r - l ≤ k - x ∧
        (∀ i, i < l → K (arrOf st') (lo + i) ≤ K (arrOf st') (lo + k)) ∧ (∀ i, r ≤ i → i < k → K (arrOf st') (lo + k) < K (arrOf st') (lo + i)))
      (Q := fun c st'' => st'' = st' ∧ ∃ l r, c = (none, l, r) ∧ l ≤ k ∧
        (∀ i, i < l → K (arrOf st') (lo + i) ≤ K (arrOf st') (lo + k)) ∧ (∀ i, l ≤ i → i < k → K (arrOf st') (lo + k) < K (arrOf st') (lo + i))) ?istep ?ifin ?iinit) ?ipost)
    case iinit => exact ⟨rfl, 0, k, rfl, by omega, by omega, by omega, fun i hi => by omega, fun i h1 h2 => by omega⟩
    case ifin =>
      rintro c st'' ⟨rfl, l, r, rfl, hlr, hrk, hm, hlo, hhi⟩
      have : l = r := by omega
      subst this
      exact ⟨rfl, l, l, rfl, hrk, hlo, hhi⟩
    case istep =>
      rintro x c st'' _ hxk ⟨rfl, l, r, rfl, hlr, hrk, hm, hlo, hhi⟩
      dsimp only
      by_cases hge : l ≥ r
      · rw [if_pos hge]
        have : l = r := by omega
        subst this
        exact wpS_pure ⟨rfl, l, l, rfl, hrk, hlo, hhi⟩
      · rw [if_neg hge]
        refine wpS_bind (wp_lt hB' h0 hk (by omega) ?_)
        by_cases hless : K (arrOf st'') (lo + k) < K (arrOf st'') (lo + (l + r) / 2)
        · simp only [hless, decide_true, if_true]
          refine wpS_pure ⟨rfl, l, (l + r) / 2, rfl, by omega, by omega, by omega, hlo, fun i h1 h2 => ?_⟩
          exact Int.lt_of_lt_of_le hless (hs' _ _ (by omega) (by omega) (by omega))
        · simp only [hless, decide_false, Bool.false_eq_true, if_false]
          refine wpS_pure ⟨rfl, (l + r) / 2 + 1, r, rfl, by omega, by omega, by omega, fun i h1 => ?_, hhi⟩
          exact Int.le_trans (hs' (lo + i) (lo + (l + r) / 2) (by omega) (by omega) (by omega)) (Int.not_lt.mp hless)
    case ipost =>
      rintro c st'' ⟨rfl, l, r, rfl, hlk, hlo, hhi⟩
      show wpS _ _ _ _ (do moveDown' (lo + k) (lo + l); pure (ForInStep.yield (none, ()))) _ _
      rw [moveDown'_eq]
      have hks : lo + k < (arrOf st'').size := by rw [hB'.size]; exact hk
      refine wpS_bind (wpS_modify (wpS_pure ⟨rfl, hB'.arr (bubble_perm _ _ _), ?_, fun i hi => ?_⟩))
      · rw [show min (k + 1) n = k + 1 by omega]
        intro i j hl hij hj
        show K (bubble (arrOf st'') (lo + k) (lo + k - (lo + l))) i ≤ K (bubble (arrOf st'') (lo + k) (lo + k - (lo + l))) j
        rw [K_bubble hks (by omega), K_bubble hks (by omega), show lo + k - (lo + k - (lo + l)) = lo + l by omega]
        have hlo' : ∀ i, lo ≤ i → i < lo + l → K (arrOf st'') i ≤ K (arrOf st'') (lo + k) := fun i h1 h2 => by
          have := hlo (i - lo) (by omega)
          rwa [show lo + (i - lo) = i by omega] at this
        have hhi' : ∀ i, lo + l ≤ i → i < lo + k → K (arrOf st'') (lo + k) < K (arrOf st'') i := fun i h1 h2 => by
          have := hhi (i - lo) (by omega) (by omega)
          rwa [show lo + (i - lo) = i by omega] at this
        repeat' split
        all_goals first
          | (exfalso; omega)
          | exact Int.le_refl _
          | exact hlo' _ (by omega) (by omega)
          | exact Int.le_of_lt (hhi' _ (by omega) (by omega))
          | exact hs' _ _ (by omega) (by omega) (by omega)
      · refine Eq.trans ?_ (hk0 i hi)
        show K (bubble (arrOf st'') (lo + k) (lo + k - (lo + l))) i = _
        rw [K_bubble hks (by omega), if_neg (by omega), if_neg (by omega)]
end
end Tim
set_option Elab.async false
set_option linter.all false
set_option maxRecDepth 100000
namespace Tim
open PySem PyProof.Rows
def bey (left : Bool) (key : Keyed) (arr : Array Keyed) (at' : Nat) : StateT SortSt Sem (Option Bool) := do
  let y ← elem' arr at'
  if left then lt' y key else return (← lt' key y).map (!·)
def gal : Bool → Keyed → Array Keyed → Nat → Nat → Nat → StateT SortSt Sem (Option Nat) := sortPriv% PySem.Builtin.gallop
theorem gal_eq (left : Bool) (key : Keyed) (arr : Array Keyed) (b n t : Nat) : gal left key arr b n t = (do
    let mut last := 0
    let mut o := 1
    let mut u := 0
    let mut v := 0
    let some r ← bey left key arr (b + t) | return none
    if r then
      for _ in [0:n] do
        if o ≥ n - t then break
        let some g ← bey left key arr (b + (t + o)) | return none
        if !g then break
        last := o
        o := 2 * o + 1
      u := t + last + 1
      v := t + min o (n - t)
    else
      for _ in [0:n] do
        if o ≥ t + 1 then break
        let some g ← bey left key arr (b + (t - o)) | return none
        if g then break
        last := o
        o := 2 * o + 1
      u := t + 1 - min o (t + 1)
      v := t - last
    for _ in [0:n] do
      if u ≥ v then break
      let m := u + (v - u) / 2
      let some g ← bey left key arr (b + m) | return none
      if g then u := m + 1 else v := m
    return some v) := rfl
def num (p : Keyed) : Int := numOf p.1
def IsI (p : Keyed) : Prop := ∃ n t, p.1 = .int n t
abbrev Bey (left : Bool) (key x : Int) : Prop := if left = true then x < key else x ≤ key
theorem Bey.mono {left : Bool} {key x y : Int} (h : x ≤ y) (b : Bey left key y) : Bey left key x := by
  cases left
  · exact Int.le_trans h b
  · exact Int.lt_of_le_of_lt h b
section
variable {prog : Program} {w : World} {A : Around} {E : Value → Shared → Prop} {s : Shared}
theorem wp_lt2 {st : SortSt} {x y : Keyed} {Q : Option Bool → SortSt → Prop} (hk : kindOf st = oneType') (hx : IsI x) (hy : IsI y) (h : Q (some (decide (num x < num y))) st) : wpS (model prog w) A E s (lt' x y) Q st := by
  obtain ⟨n, t, e⟩ := hx
  obtain ⟨m, u, e2⟩ := hy
  rw [lt'_eq]
  refine wpS_bind (wpS_get ?_)
  rw [hk, keyLt'_oneType, e, e2]
  refine wpS_bind (wpS_lift (wpAny_attempt (oneLt_int ⟨rfl, ?_⟩)))
  unfold num at h
  rw [e, e2] at h
  exact wpS_pure h
theorem wp_el {st : SortSt} {arr : Array Keyed} {i : Nat} {Q : Keyed → SortSt → Prop} (hi : i < arr.size) (h : Q arr[i] st) : wpS (model prog w) A E s (elem' arr i) Q st := by
  rw [elem'_eq, getElem?_pos arr i hi]
  exact wpS_pure h
theorem isI_at {arr : Array Keyed} (h : IntKeys arr) {i : Nat} (hi : i < arr.size) : IsI arr[i] := h _ (by simp)
theorem num_at {arr : Array Keyed} {i : Nat} (hi : i < arr.size) : num arr[i] = K arr i := by
  unfold K num
  rw [getElem?_pos arr i hi]
theorem wp_bey {st : SortSt} {left : Bool} {key : Keyed} {arr : Array Keyed} {i : Nat} {Q : Option Bool → SortSt → Prop} (hk : kindOf st = oneType') (ha : IntKeys arr) (hkey : IsI key) (hi : i < arr.size)
    (h : Q (some (decide (Bey left (num key) (K arr i)))) st) : wpS (model prog w) A E s (bey left key arr i) Q st := by
  unfold bey
  refine wpS_bind (wp_el hi ?_)
  cases left
  · simp only [Bool.false_eq_true, if_false]
    refine wpS_bind (wp_lt2 hk hkey (isI_at ha hi) (wpS_pure ?_))
    rw [num_at hi]
    have e : decide (Bey false (num key) (K arr i)) = !decide (num key < K arr i) := by
      by_cases z : num key < K arr i
      · simp [z]
      · simp [z]; omega
    rw [e] at h
    exact h
  · simp only [if_true]
    refine wp_lt2 hk (isI_at ha hi) hkey ?_
    rw [num_at hi]
    simpa using h
def binL (left : Bool) (key : Keyed) (arr : Array Keyed) (b n u v : Nat) : StateT SortSt Sem (Option (Option Nat) × Nat × Nat) := forIn [0:n] ((none, u, v) : Option (Option Nat) × Nat × Nat) fun _ c =>
  if c.snd.fst ≥ c.snd.snd then pure (ForInStep.done (none, c.snd.fst, c.snd.snd))
  else do
    let x ← bey left key arr (b + (c.snd.fst + (c.snd.snd - c.snd.fst) / 2))
    match x with
      | some g => if g = true then pure (ForInStep.yield (none, c.snd.fst + (c.snd.snd - c.snd.fst) / 2 + 1, c.snd.snd)) else pure (ForInStep.yield (none, c.snd.fst, c.snd.fst + (c.snd.snd - c.snd.fst) / 2))
      | _ => pure (ForInStep.done (some none, c.snd.fst, c.snd.snd))
theorem wp_binL {st : SortSt} {left : Bool} {key : Keyed} {arr : Array Keyed} {b n u v : Nat} {Q : Option (Option Nat) × Nat × Nat → SortSt → Prop} (hk : kindOf st = oneType') (ha : IntKeys arr) (hkey : IsI key) (hb : b + n ≤ arr.size) (hs : Seg (K arr) b (b + n))
    (huv : u ≤ v) (hv : v ≤ n) (h1 : ∀ i, i < u → Bey left (num key) (K arr (b + i))) (h2 : ∀ i, v ≤ i → i < n → ¬ Bey left (num key) (K arr (b + i)))
    (h : ∀ u k, k ≤ n → (∀ i, i < k → Bey left (num key) (K arr (b + i))) → (∀ i, k ≤ i → i < n → ¬ Bey left (num key) (K arr (b + i))) → Q (none, u, k) st) : wpS (model prog w) A E s (binL left key arr b n u v) Q st := by
  have mono : ∀ i j, i ≤ j → j < n → Bey left (num key) (K arr (b + j)) → Bey left (num key) (K arr (b + i)) := fun i j hij hj z => z.mono (hs _ _ (by omega) (by omega) (by omega))
  unfold binL
  refine wpS_forRange (I := fun x c st' => st' = st ∧ ∃ u v, c = (none, u, v) ∧ u ≤ v ∧ v ≤ n ∧ v - u ≤ n - x ∧ (∀ i, i < u → Bey left (num key) (K arr (b + i))) ∧ (∀ i, v ≤ i → i < n → ¬ Bey left (num key) (K arr (b + i)))) ?step ?fin ⟨rfl, u, v, rfl, huv, hv, by omega, h1, h2⟩
  case fin =>
    rintro c st' ⟨rfl, u, v, rfl, a1, a2, a3, a4, a5⟩
    have : u = v := by omega
    subst this
    exact h u u a2 a4 a5
  case step =>
    rintro x c st' _ hx ⟨rfl, u, v, rfl, a1, a2, a3, a4, a5⟩
    dsimp only
    by_cases z : u ≥ v
    · rw [if_pos z]
      have : u = v := by omega
      subst this
      exact wpS_pure (h u u a2 a4 a5)
    · rw [if_neg z]
      refine wpS_bind (wp_bey hk ha hkey (by omega) ?_)
      by_cases y : Bey left (num key) (K arr (b + (u + (v - u) / 2)))
      · simp only [decide_eq_true y, if_true]
        exact wpS_pure ⟨rfl, _, _, rfl, by omega, a2, by omega, fun i hi => mono i _ (by omega) (by omega) y, a5⟩
      · simp only [decide_eq_false y, Bool.false_eq_true, if_false]
        exact wpS_pure ⟨rfl, _, _, rfl, by omega, by omega, by omega, a4, fun i h1 h2 w => y (mono _ i h1 h2 w)⟩
theorem wp_gal {st : SortSt} {left : Bool} {key : Keyed} {arr : Array Keyed} {b n t : Nat} {Q : Option Nat → SortSt → Prop} (hk : kindOf st = oneType') (ha : IntKeys arr) (hkey : IsI key) (hb : b + n ≤ arr.size) (ht : t < n) (hs : Seg (K arr) b (b + n))
    (h : ∀ k, k ≤ n → (∀ i, i < k → Bey left (num key) (K arr (b + i))) → (∀ i, k ≤ i → i < n → ¬ Bey left (num key) (K arr (b + i))) → Q (some k) st) : wpS (model prog w) A E s (gal left key arr b n t) Q st := by
  have mono : ∀ i j, i ≤ j → j < n → Bey left (num key) (K arr (b + j)) → Bey left (num key) (K arr (b + i)) := fun i j hij hj z => z.mono (hs _ _ (by omega) (by omega) (by omega))
  rw [gal_eq]
  dsimp only
  refine wpS_bind (wp_bey hk ha hkey (by omega) ?_)
  by_cases z : Bey left (num key) (K arr (b + t))
  · simp only [decide_eq_true z, if_true]
    refine wpS_bind (wpS_mono (wpS_forRange (I := fun x c st' => st' = st ∧ ∃ l o, c = (none, l, o) ∧ l < o ∧ t + l < n ∧ x < o ∧ Bey left (num key) (K arr (b + (t + l))))
      (Q := fun c st' => st' = st ∧ ∃ l o, c = (none, l, o) ∧ l < o ∧ t + l < n ∧ Bey left (num key) (K arr (b + (t + l))) ∧ (o < n - t → ¬ Bey left (num key) (K arr (b + (t + o))))) ?step ?fin ⟨rfl, 0, 1, rfl, by omega, by omega, by omega, z⟩) ?post)
    case fin =>
      rintro c st' ⟨rfl, l, o, rfl, a1, a2, a3, a4⟩
      exact ⟨rfl, l, o, rfl, a1, a2, a4, fun y => by omega⟩
    case step =>
      rintro x c st' _ hx ⟨rfl, l, o, rfl, a1, a2, a3, a4⟩
      dsimp only
      by_cases y : o ≥ n - t
      · rw [if_pos y]
        exact wpS_pure ⟨rfl, l, o, rfl, a1, a2, a4, fun y' => by omega⟩
      · rw [if_neg y]
        refine wpS_bind (wp_bey hk ha hkey (by omega) ?_)
        by_cases g : Bey left (num key) (K arr (b + (t + o)))
        · simp only [decide_eq_true g, Bool.not_true, Bool.false_eq_true, if_false]
          exact wpS_pure ⟨rfl, _, _, rfl, by omega, by omega, by omega, g⟩
        · simp only [decide_eq_false g, Bool.not_false, if_true]
          exact wpS_pure ⟨rfl, l, o, rfl, a1, a2, a4, fun _ => g⟩
    case post =>
      rintro c st' ⟨rfl, l, o, rfl, a1, a2, a3, a4⟩
      dsimp only
      refine wpS_bind (wp_binL hk ha hkey hb hs (by omega) (by omega) (fun i hi => mono i (t + l) (by omega) (by omega) a3) (fun i h1 h2 w => ?_) fun u k k1 k2 k3 => wpS_pure (h k k1 k2 k3))
      have ho : o < n - t := by omega
      exact a4 ho (mono _ i (by omega) h2 w)
  · simp only [decide_eq_false z, Bool.false_eq_true, if_false]
    refine wpS_bind (wpS_mono (wpS_forRange (I := fun x c st' => st' = st ∧ ∃ l o, c = (none, l, o) ∧ l < o ∧ l ≤ t ∧ x < o ∧ ¬ Bey left (num key) (K arr (b + (t - l))))
      (Q := fun c st' => st' = st ∧ ∃ l o, c = (none, l, o) ∧ l < o ∧ l ≤ t ∧ ¬ Bey left (num key) (K arr (b + (t - l))) ∧ (o < t + 1 → Bey left (num key) (K arr (b + (t - o))))) ?step2 ?fin2 ⟨rfl, 0, 1, rfl, by omega, by omega, by omega, z⟩) ?post2)
    case fin2 =>
      rintro c st' ⟨rfl, l, o, rfl, a1, a2, a3, a4⟩
      exact ⟨rfl, l, o, rfl, a1, a2, a4, fun y => by omega⟩
    case step2 =>
      rintro x c st' _ hx ⟨rfl, l, o, rfl, a1, a2, a3, a4⟩
      dsimp only
      by_cases y : o ≥ t + 1
      · rw [if_pos y]
        exact wpS_pure ⟨rfl, l, o, rfl, a1, a2, a4, fun y' => by omega⟩
      · rw [if_neg y]
        refine wpS_bind (wp_bey hk ha hkey (by omega) ?_)
        by_cases g : Bey left (num key) (K arr (b + (t - o)))
        · simp only [decide_eq_true g, if_true]
          exact wpS_pure ⟨rfl, l, o, rfl, a1, a2, a4, fun _ => g⟩
        · simp only [decide_eq_false g, Bool.false_eq_true, if_false]
          exact wpS_pure ⟨rfl, _, _, rfl, by omega, by omega, by omega, g⟩
    case post2 =>
      rintro c st' ⟨rfl, l, o, rfl, a1, a2, a3, a4⟩
      dsimp only
      refine wpS_bind (wp_binL hk ha hkey hb hs (by omega) (by omega) (fun i hi => ?_) (fun i h1 h2 w => a3 (mono _ i (by omega) h2 w)) fun u k k1 k2 k3 => wpS_pure (h k k1 k2 k3))
      have ho : o < t + 1 := by omega
      exact mono i _ (by omega) (by omega) (a4 ho)
end
end Tim
set_option Elab.async false
set_option linter.all false
set_option maxRecDepth 100000
namespace Tim
open PySem PyProof.Rows
abbrev Srt (l : List Keyed) : Prop := l.Pairwise fun p q => num p ≤ num q
structure Lo (a b out : Array Keyed) (ia ib : Nat) : Prop where
  ha : ia ≤ a.size
  hb : ib ≤ b.size
  perm : (out.toList ++ (a.toList.drop ia ++ b.toList.drop ib)).Perm (a.toList ++ b.toList)
  srt : Srt out.toList
  le : ∀ p ∈ out.toList, ∀ q ∈ a.toList.drop ia ++ b.toList.drop ib, num p ≤ num q
theorem cutA {α : Type} (l : List α) (i k : Nat) : l.drop i = (l.drop i).take k ++ l.drop (i + k) := by
  rw [← List.drop_drop, List.take_append_drop]
theorem Lo.takeA {a b out out' : Array Keyed} {ia ib : Nat} (L : Lo a b out ia ib) (k : Nat) (hk : ia + k ≤ a.size) (sa : Srt a.toList) (hle : ∀ p ∈ (a.toList.drop ia).take k, ∀ q ∈ b.toList.drop ib, num p ≤ num q)
    (e : out'.toList = out.toList ++ (a.toList.drop ia).take k) : Lo a b out' (ia + k) ib := by
  have c := cutA a.toList ia k
  have sd : Srt (a.toList.drop ia) := sa.sublist (List.drop_sublist _ _)
  rw [c] at sd
  obtain ⟨s1, s2, s3⟩ := List.pairwise_append.mp sd
  refine ⟨hk, L.hb, ?_, ?_, fun p hp q hq => ?_⟩
  · have := L.perm
    rw [c] at this
    rw [e]
    simpa [List.append_assoc] using this
  · rw [e]
    refine List.pairwise_append.mpr ⟨L.srt, s1, fun p hp q hq => L.le p hp q (List.mem_append.mpr (.inl ?_))⟩
    rw [c]
    exact List.mem_append.mpr (.inl hq)
  · rw [e] at hp
    rcases List.mem_append.mp hp with hp | hp
    · refine L.le p hp q ?_
      rcases List.mem_append.mp hq with hq | hq
      · refine List.mem_append.mpr (.inl ?_)
        rw [c]
        exact List.mem_append.mpr (.inr hq)
      · exact List.mem_append.mpr (.inr hq)
    · rcases List.mem_append.mp hq with hq | hq
      · exact s3 p hp q hq
      · exact hle p hp q hq
theorem Lo.takeB {a b out out' : Array Keyed} {ia ib : Nat} (L : Lo a b out ia ib) (k : Nat) (hk : ib + k ≤ b.size) (sb : Srt b.toList) (hle : ∀ p ∈ (b.toList.drop ib).take k, ∀ q ∈ a.toList.drop ia, num p ≤ num q)
    (e : out'.toList = out.toList ++ (b.toList.drop ib).take k) : Lo a b out' ia (ib + k) := by
  have c := cutA b.toList ib k
  have sd : Srt (b.toList.drop ib) := sb.sublist (List.drop_sublist _ _)
  rw [c] at sd
  obtain ⟨s1, s2, s3⟩ := List.pairwise_append.mp sd
  refine ⟨L.ha, hk, ?_, ?_, fun p hp q hq => ?_⟩
  · refine List.Perm.trans ?_ L.perm
    rw [e, c, List.append_assoc]
    refine List.Perm.append_left _ ?_
    rw [← c]
    exact (List.perm_append_comm_assoc _ _ _).trans (List.Perm.of_eq (by rw [← c]))
  · rw [e]
    refine List.pairwise_append.mpr ⟨L.srt, s1, fun p hp q hq => L.le p hp q (List.mem_append.mpr (.inr ?_))⟩
    rw [c]
    exact List.mem_append.mpr (.inl hq)
  · rw [e] at hp
    rcases List.mem_append.mp hp with hp | hp
    · refine L.le p hp q ?_
      rcases List.mem_append.mp hq with hq | hq
      · exact List.mem_append.mpr (.inl hq)
      · refine List.mem_append.mpr (.inr ?_)
        rw [c]
        exact List.mem_append.mpr (.inr hq)
    · rcases List.mem_append.mp hq with hq | hq
      · exact hle p hp q hq
      · exact s3 p hp q hq
def Mok (a b M : Array Keyed) : Prop := M.toList.Perm (a.toList ++ b.toList) ∧ Srt M.toList
theorem drop_all {a : Array Keyed} : a.toList.drop a.size = [] := by simp
theorem Lo.done {a b out M : Array Keyed} {ia ib : Nat} (L : Lo a b out ia ib) (sa : Srt a.toList) (sb : Srt b.toList) (h : ib = b.size ∨ ia = a.size) (e : M.toList = out.toList ++ a.toList.drop ia ++ b.toList.drop ib) : Mok a b M := by
  refine ⟨by rw [e, List.append_assoc]; exact L.perm, ?_⟩
  rw [e, List.append_assoc]
  refine List.pairwise_append.mpr ⟨L.srt, ?_, L.le⟩
  rcases h with h | h
  · rw [h, drop_all, List.append_nil]
    exact sa.sublist (List.drop_sublist _ _)
  · rw [h, drop_all, List.nil_append]
    exact sb.sublist (List.drop_sublist _ _)
theorem one_at {a : Array Keyed} {i : Nat} (h : i < a.size) : (a.toList.drop i).take 1 = [a[i]] := by
  rw [List.drop_eq_getElem_cons (by simpa using h)]
  simp
theorem Lo.last {a b out M : Array Keyed} {ia ib : Nat} (L : Lo a b out ia ib) (sb : Srt b.toList) (h : ia + 1 = a.size) (hl : ∀ p ∈ b.toList, num p ≤ num (a[ia]'(by omega))) (e : M.toList = out.toList ++ b.toList.drop ib ++ a.toList.drop ia) : Mok a b M := by
  refine ⟨?_, ?_⟩
  · rw [e, List.append_assoc]
    exact (List.Perm.append_left _ List.perm_append_comm).trans L.perm
  · rw [e, List.append_assoc]
    refine List.pairwise_append.mpr ⟨L.srt, ?_, fun p hp q hq => L.le p hp q (List.perm_append_comm.mem_iff.mp hq)⟩
    have d : a.toList.drop ia = [a[ia]'(by omega)] := by
      rw [← one_at (by omega), List.take_of_length_le (by rw [List.length_drop]; simp; omega)]
    rw [d]
    refine List.pairwise_append.mpr ⟨sb.sublist (List.drop_sublist _ _), List.pairwise_singleton _ _, fun p hp q hq => ?_⟩
    rw [List.mem_singleton.mp hq]
    exact hl p (List.mem_of_mem_drop hp)
def mLo : Array Keyed → Array Keyed → StateT SortSt Sem (Array Keyed) := sortPriv% PySem.Builtin.mergeLo
abbrev sg (st : SortSt) (g : Nat) : SortSt := SortSt.mk' (kindOf st) (arrOf st) (pendingOf st) g (failedOf st)
theorem mLo_eq (a b : Array Keyed) : mLo a b = (do
    rule "list.sort.merge-lo"
    let T := a.size + b.size
    let fin1 (out : Array Keyed) (i j : Nat) := out ++ a.extract i a.size ++ b.extract j b.size
    let fin2 (out : Array Keyed) (i j : Nat) := out ++ b.extract j b.size ++ a.extract i a.size
    let mut out : Array Keyed := #[← elem' b 0]
    let mut i := 0
    let mut j := 1
    if j == b.size then return fin1 out i j
    if i + 1 == a.size then return fin2 out i j
    let mut g := gallopOf (← get)
    for _ in [0:T] do
      let mut ca := 0
      let mut cb := 0
      for _ in [0:T] do
        let some r ← lt' (← elem' b j) (← elem' a i) | return fin1 out i j
        if r then
          out := out.push (← elem' b j)
          j := j + 1
          cb := cb + 1
          ca := 0
          if j == b.size then return fin1 out i j
          if cb ≥ g then break
        else
          out := out.push (← elem' a i)
          i := i + 1
          ca := ca + 1
          cb := 0
          if i + 1 == a.size then return fin2 out i j
          if ca ≥ g then break
      rule "list.sort.gallop"
      g := g + 1
      for _ in [0:T] do
        if g > 1 then g := g - 1
        modify fun st => sg st g
        let some k ← gal false (← elem' b j) a i (a.size - i) 0 | return fin1 out i j
        ca := k
        if k > 0 then
          out := out ++ a.extract i (i + k)
          i := i + k
          if i + 1 == a.size then return fin2 out i j
          if i == a.size then return fin1 out i j
        out := out.push (← elem' b j)
        j := j + 1
        if j == b.size then return fin1 out i j
        let some k ← gal true (← elem' a i) b j (b.size - j) 0 | return fin1 out i j
        cb := k
        if k > 0 then
          out := out ++ b.extract j (j + k)
          j := j + k
          if j == b.size then return fin1 out i j
        out := out.push (← elem' a i)
        i := i + 1
        if i + 1 == a.size then return fin2 out i j
        if ca < 7 && cb < 7 then break
      g := g + 1
      modify fun st => sg st g
    unsupported "internal:list.sort.merge-bound") := by rfl
theorem mem_dropI {a : Array Keyed} {i : Nat} {q : Keyed} (h : q ∈ a.toList.drop i) : ∃ x, ∃ hx : i + x < a.size, q = a[i + x] := by
  obtain ⟨x, hx, e⟩ := List.mem_iff_getElem.mp h
  rw [List.length_drop] at hx
  have hx' : i + x < a.size := by simp at hx; omega
  refine ⟨x, hx', ?_⟩
  rw [← e, List.getElem_drop]
  simp
theorem mem_takeI {a : Array Keyed} {i k : Nat} {q : Keyed} (h : q ∈ (a.toList.drop i).take k) : ∃ x, ∃ hx : i + x < a.size, x < k ∧ q = a[i + x] := by
  obtain ⟨x, hx, e⟩ := List.mem_iff_getElem.mp h
  rw [List.length_take, List.length_drop] at hx
  have hx' : i + x < a.size := by simp at hx; omega
  refine ⟨x, hx', by omega, ?_⟩
  rw [← e, List.getElem_take, List.getElem_drop]
  simp
theorem seg_of {a : Array Keyed} (h : Srt a.toList) {i n : Nat} (hn : i + n ≤ a.size) : Seg (K a) i (i + n) := by
  intro x y hx hxy hy
  by_cases e : x = y
  · subst e; exact Int.le_refl _
  · have hy' : y < a.size := by omega
    have := List.pairwise_iff_getElem.mp h x y (by simp; omega) (by simpa using hy') (by omega)
    rw [← num_at (show x < a.size by omega), ← num_at hy']
    simpa using this
theorem head_le {a : Array Keyed} (h : Srt a.toList) {i : Nat} (hi : i < a.size) : ∀ q ∈ a.toList.drop i, num a[i] ≤ num q := by
  intro q hq
  obtain ⟨x, hx, rfl⟩ := mem_dropI hq
  rw [num_at hi, num_at hx]
  exact seg_of h (i := 0) (n := a.size) (by omega) i (i + x) (by omega) (by omega) (by omega)
theorem ext_all (a : Array Keyed) (i : Nat) : (a.extract i a.size).toList = a.toList.drop i := by
  rw [Array.toList_extract]
  simp [List.extract]
  exact List.take_of_length_le (by simp)
theorem ext_k (a : Array Keyed) (i k : Nat) : (a.extract i (i + k)).toList = (a.toList.drop i).take k := by
  rw [Array.toList_extract]
  simp [List.extract]
abbrev RLo := Option (Array Keyed) × Array Keyed × Nat × Nat × Nat × Nat × Nat
def endLo (a b : Array Keyed) (k m : Nat) (out : Array Keyed) (i j g : Nat) : StateT SortSt Sem (ForInStep RLo) := do
  let y ← elem' a i
  if (i + 1 + 1 == a.size) = true then pure (.done (some (out.push y ++ b.extract j b.size ++ a.extract (i + 1) a.size), out.push y, i + 1, j, g, k, m))
  else if (decide (k < 7) && decide (m < 7)) = true then pure (.done (none, out.push y, i + 1, j, g, k, m)) else pure (.yield (none, out.push y, i + 1, j, g, k, m))
def tailLo (a b : Array Keyed) (k : Nat) (out : Array Keyed) (i j g cb : Nat) : StateT SortSt Sem (ForInStep RLo) := do
  let e ← elem' b j
  if (j + 1 == b.size) = true then pure (.done (some (out.push e ++ a.extract i a.size ++ b.extract (j + 1) b.size), out.push e, i, j + 1, g, k, cb)) else do
    let y ← elem' a i
    let r ← gal true y b (j + 1) (b.size - (j + 1)) 0
    match r with
    | some m =>
      if m > 0 then
        if (j + 1 + m == b.size) = true then pure (.done (some (out.push e ++ b.extract (j + 1) (j + 1 + m) ++ a.extract i a.size ++ b.extract (j + 1 + m) b.size), out.push e ++ b.extract (j + 1) (j + 1 + m), i, j + 1 + m, g, k, m))
        else endLo a b k m (out.push e ++ b.extract (j + 1) (j + 1 + m)) i (j + 1 + m) g
      else endLo a b k m (out.push e) i (j + 1) g
    | _ => pure (.done (some (out.push e ++ a.extract i a.size ++ b.extract (j + 1) b.size), out.push e, i, j + 1, g, k, cb))
def bodyLo (a b out : Array Keyed) (i j g ca cb : Nat) : StateT SortSt Sem (ForInStep RLo) := do
  modify fun st => sg st g
  let e ← elem' b j
  let r ← gal false e a i (a.size - i) 0
  match r with
  | some k =>
    if k > 0 then
      if (i + k + 1 == a.size) = true then pure (.done (some (out ++ a.extract i (i + k) ++ b.extract j b.size ++ a.extract (i + k) a.size), out ++ a.extract i (i + k), i + k, j, g, k, cb))
      else if (i + k == a.size) = true then pure (.done (some (out ++ a.extract i (i + k) ++ a.extract (i + k) a.size ++ b.extract j b.size), out ++ a.extract i (i + k), i + k, j, g, k, cb))
      else tailLo a b k (out ++ a.extract i (i + k)) (i + k) j g cb
    else tailLo a b k out i j g cb
  | _ => pure (.done (some (out ++ a.extract i a.size ++ b.extract j b.size), out, i, j, g, ca, cb))
def Post2 (a b : Array Keyed) (st : SortSt) (lo : Nat) (c : RLo) (st' : SortSt) : Prop :=
  (∃ g, st' = sg st g) ∧ ((∃ M r, c = (some M, r) ∧ Mok a b M) ∨ ∃ out i j g ca cb, c = (none, out, i, j, g, ca, cb) ∧ Lo a b out i j ∧ j < b.size ∧ i + 1 < a.size ∧ lo ≤ i + j)
section
variable {prog : Program} {w : World} {A : Around} {E : Value → Shared → Prop} {s : Shared}
theorem wp_endLo {st st' : SortSt} {a b out : Array Keyed} {k m i j g lo : Nat} (sa : Srt a.toList) (sb : Srt b.toList) (hst : ∃ g, st' = sg st g) (L : Lo a b out i j) (hi : i + 1 < a.size) (hj : j < b.size) (hlo : lo ≤ i + 1 + j)
    (hle : ∀ q ∈ b.toList.drop j, num (a[i]'(by omega)) ≤ num q) (hl : ∀ p ∈ b.toList, num p ≤ num (a[a.size - 1]'(by omega))) :
    wpS (model prog w) A E s (endLo a b k m out i j g) (fun r st' => match r with | .done c => Post2 a b st lo c st' | .yield c => Post2 a b st lo c st' ∧ c.1 = none) st' := by
  unfold endLo
  refine wpS_bind (wp_el (by omega) ?_)
  have L' : Lo a b (out.push (a[i]'(by omega))) (i + 1) j := L.takeA 1 (by omega) sa (fun p hp q hq => by
    rw [one_at (by omega)] at hp
    rw [List.mem_singleton.mp hp]
    exact hle q hq) (by rw [Array.toList_push, one_at (by omega)])
  by_cases z : (i + 1 + 1 == a.size) = true
  · rw [if_pos z]
    have z' : i + 1 + 1 = a.size := by simpa using z
    refine wpS_pure ⟨hst, .inl ⟨_, _, rfl, L'.last sb z' (fun p hp => ?_) (by rw [Array.toList_append, Array.toList_append, ext_all, ext_all])⟩⟩
    have := hl p hp
    simp only [show a.size - 1 = i + 1 by omega] at this
    exact this
  · rw [if_neg z]
    have z' : ¬ i + 1 + 1 = a.size := by simpa using z
    split
    · exact wpS_pure ⟨hst, .inr ⟨_, _, _, _, _, _, rfl, L', hj, by omega, by omega⟩⟩
    · exact wpS_pure ⟨⟨hst, .inr ⟨_, _, _, _, _, _, rfl, L', hj, by omega, by omega⟩⟩, rfl⟩
theorem wp_tailLo {st st' : SortSt} {a b out : Array Keyed} {k i j g cb lo : Nat} (hk : kindOf st = oneType') (ka : IntKeys a) (kb : IntKeys b) (sa : Srt a.toList) (sb : Srt b.toList) (hst : ∃ g, st' = sg st g) (L : Lo a b out i j) (hi : i + 1 < a.size) (hj : j < b.size) (hlo : lo ≤ i + j + 1)
    (hle : ∀ q ∈ a.toList.drop i, num b[j] ≤ num q) (hl : ∀ p ∈ b.toList, num p ≤ num (a[a.size - 1]'(by omega))) :
    wpS (model prog w) A E s (tailLo a b k out i j g cb) (fun r st' => match r with | .done c => Post2 a b st lo c st' | .yield c => Post2 a b st lo c st' ∧ c.1 = none) st' := by
  obtain ⟨g0, rfl⟩ := hst
  unfold tailLo
  refine wpS_bind (wp_el hj ?_)
  have L' : Lo a b (out.push b[j]) i (j + 1) := L.takeB 1 (by omega) sb (fun p hp q hq => by
    rw [one_at hj] at hp
    rw [List.mem_singleton.mp hp]
    exact hle q hq) (by rw [Array.toList_push, one_at hj])
  by_cases z : (j + 1 == b.size) = true
  · rw [if_pos z]
    exact wpS_pure ⟨⟨_, rfl⟩, .inl ⟨_, _, rfl, L'.done sa sb (.inl (by simpa using z)) (by rw [Array.toList_append, Array.toList_append, ext_all, ext_all])⟩⟩
  · rw [if_neg z]
    have z' : ¬ j + 1 = b.size := by simpa using z
    refine wpS_bind (wp_el (by omega) ?_)
    refine wpS_bind (wp_gal (st := sg st g0) hk kb (isI_at ka _) (by omega) (by omega) (seg_of sb (by omega)) fun m m1 m2 m3 => ?_)
    dsimp only
    have m2' : ∀ p ∈ (b.toList.drop (j + 1)).take m, num p < num (a[i]'(by omega)) := fun p hp => by
      obtain ⟨x, hx, hxm, rfl⟩ := mem_takeI hp
      rw [num_at hx]
      exact m2 x hxm
    have m3' : ∀ q ∈ b.toList.drop (j + 1 + m), num (a[i]'(by omega)) ≤ num q := fun q hq => by
      obtain ⟨x, hx, rfl⟩ := mem_dropI hq
      rw [num_at hx]
      have := m3 (m + x) (by omega) (by omega)
      rw [show j + 1 + (m + x) = j + 1 + m + x by omega] at this
      exact Int.not_lt.mp this
    by_cases y : m > 0
    · rw [if_pos y]
      have L2 : Lo a b (out.push b[j] ++ b.extract (j + 1) (j + 1 + m)) i (j + 1 + m) := L'.takeB m (by omega) sb (fun p hp q hq => Int.le_trans (Int.le_of_lt (m2' p hp)) (head_le sa (by omega) q hq)) (by rw [Array.toList_append, ext_k])
      by_cases v : (j + 1 + m == b.size) = true
      · rw [if_pos v]
        exact wpS_pure ⟨⟨_, rfl⟩, .inl ⟨_, _, rfl, L2.done sa sb (.inl (by simpa using v)) (by rw [Array.toList_append (xs := _ ++ _ ++ _), Array.toList_append (xs := _ ++ _), ext_all, ext_all])⟩⟩
      · rw [if_neg v]
        have v' : ¬ j + 1 + m = b.size := by simpa using v
        exact wp_endLo sa sb ⟨_, rfl⟩ L2 hi (by omega) (by omega) m3' hl
    · rw [if_neg y]
      have y0 : m = 0 := by omega
      subst y0
      exact wp_endLo sa sb ⟨_, rfl⟩ L' hi (by omega) (by omega) m3' hl
theorem Post2.le {a b : Array Keyed} {st st' : SortSt} {lo lo' : Nat} {c : RLo} (h : Post2 a b st lo c st') (hl : lo' ≤ lo) : Post2 a b st lo' c st' := by
  obtain ⟨hst, h | ⟨out, i, j, g, ca, cb, e, L, h1, h2, h3⟩⟩ := h
  · exact ⟨hst, .inl h⟩
  · exact ⟨hst, .inr ⟨out, i, j, g, ca, cb, e, L, h1, h2, Nat.le_trans hl h3⟩⟩
theorem wp_bodyLo {st st' : SortSt} {a b out : Array Keyed} {i j g ca cb lo : Nat} (hk : kindOf st = oneType') (ka : IntKeys a) (kb : IntKeys b) (sa : Srt a.toList) (sb : Srt b.toList) (hst : ∃ g, st' = sg st g) (L : Lo a b out i j) (hi : i + 1 < a.size) (hj : j < b.size) (hlo : lo ≤ i + j + 1)
    (hl : ∀ p ∈ b.toList, num p ≤ num (a[a.size - 1]'(by omega))) :
    wpS (model prog w) A E s (bodyLo a b out i j g ca cb) (fun r st' => match r with | .done c => Post2 a b st lo c st' | .yield c => Post2 a b st lo c st' ∧ c.1 = none) st' := by
  obtain ⟨g0, rfl⟩ := hst
  unfold bodyLo
  refine wpS_bind (wpS_modify (wpS_bind (wp_el hj ?_)))
  refine wpS_bind (wp_gal (st := sg st g) hk ka (isI_at kb _) (by omega) (by omega) (seg_of sa (by omega)) fun k k1 k2 k3 => ?_)
  dsimp only
  have k2' : ∀ p ∈ (a.toList.drop i).take k, num p ≤ num b[j] := fun p hp => by
    obtain ⟨x, hx, hxm, rfl⟩ := mem_takeI hp
    rw [num_at hx]
    exact k2 x hxm
  have k3' : ∀ q ∈ a.toList.drop (i + k), num b[j] ≤ num q := fun q hq => by
    obtain ⟨x, hx, rfl⟩ := mem_dropI hq
    rw [num_at hx]
    have := k3 (k + x) (by omega) (by omega)
    rw [show i + (k + x) = i + k + x by omega] at this
    exact Int.le_of_lt (Int.not_le.mp this)
  by_cases y : k > 0
  · rw [if_pos y]
    have L2 : Lo a b (out ++ a.extract i (i + k)) (i + k) j := L.takeA k (by omega) sa (fun p hp q hq => Int.le_trans (k2' p hp) (head_le sb hj q hq)) (by rw [Array.toList_append, ext_k])
    by_cases v : (i + k + 1 == a.size) = true
    · rw [if_pos v]
      have v' : i + k + 1 = a.size := by simpa using v
      refine wpS_pure ⟨⟨_, rfl⟩, .inl ⟨_, _, rfl, L2.last sb v' (fun p hp => ?_) (by rw [Array.toList_append (xs := _ ++ _ ++ _), Array.toList_append (xs := _ ++ _), ext_all, ext_all])⟩⟩
      have := hl p hp
      simp only [show a.size - 1 = i + k by omega] at this
      exact this
    · rw [if_neg v]
      have v' : ¬ i + k + 1 = a.size := by simpa using v
      by_cases u : (i + k == a.size) = true
      · rw [if_pos u]
        exact wpS_pure ⟨⟨_, rfl⟩, .inl ⟨_, _, rfl, L2.done sa sb (.inr (by simpa using u)) (by rw [Array.toList_append (xs := _ ++ _ ++ _), Array.toList_append (xs := _ ++ _), ext_all, ext_all])⟩⟩
      · rw [if_neg u]
        have u' : ¬ i + k = a.size := by simpa using u
        exact wp_tailLo hk ka kb sa sb ⟨_, rfl⟩ L2 (by omega) hj (by omega) k3' hl
  · rw [if_neg y]
    have y0 : k = 0 := by omega
    subst y0
    exact wp_tailLo hk ka kb sa sb ⟨_, rfl⟩ L hi hj hlo k3' hl
theorem wp_mLo {st : SortSt} {a b : Array Keyed} {Q : Array Keyed → SortSt → Prop} (hk : kindOf st = oneType') (ka : IntKeys a) (kb : IntKeys b) (sa : Srt a.toList) (sb : Srt b.toList) (a1 : 0 < a.size) (b1 : 0 < b.size)
    (hf : ∀ q ∈ a.toList, num b[0] ≤ num q) (hl : ∀ p ∈ b.toList, num p ≤ num (a[a.size - 1]'(by omega))) (h : ∀ M g, Mok a b M → Q M (sg st g)) : wpS (model prog w) A E s (mLo a b) Q st := by
  rw [mLo_eq]
  dsimp only
  refine wpS_bind (wpS_lift (wpAny_rule ⟨rfl, ?_⟩))
  refine wpS_bind (wp_el b1 ?_)
  have L0 : Lo a b #[] 0 0 := ⟨by omega, by omega, by simp, by simp, fun p hp => by simp at hp⟩
  have L1 : Lo a b #[b[0]] 0 1 := L0.takeB 1 (by omega) sb (fun p hp q hq => by
    rw [one_at b1] at hp
    rw [List.mem_singleton.mp hp]
    exact hf q (List.mem_of_mem_drop hq)) (by rw [one_at b1]; rfl)
  by_cases z : (1 == b.size) = true
  · rw [if_pos z]
    exact wpS_pure (h _ (gallopOf st) (L1.done sa sb (.inl (by simpa using z)) (by rw [Array.toList_append, Array.toList_append, ext_all, ext_all])))
  · rw [if_neg z]
    have z' : ¬ 1 = b.size := by simpa using z
    by_cases y : (0 + 1 == a.size) = true
    · rw [if_pos y]
      have y' : 0 + 1 = a.size := by simpa using y
      refine wpS_pure (h _ (gallopOf st) (L1.last sb y' (fun p hp => ?_) (by rw [Array.toList_append, Array.toList_append, ext_all, ext_all])))
      have := hl p hp
      simp only [show a.size - 1 = 0 by omega] at this
      exact this
    · rw [if_neg y]
      have y' : ¬ 0 + 1 = a.size := by simpa using y
      refine wpS_bind (wpS_get ?_)
      refine wpS_bind (wpS_mono (wpS_forRange (I := fun x c st' => (∃ g, st' = sg st g) ∧ ∃ out i j g, c = (none, out, i, j, g) ∧ Lo a b out i j ∧ j < b.size ∧ i + 1 < a.size ∧ x ≤ i + j)
        (Q := fun c st' => (∃ g, st' = sg st g) ∧ ∃ M r, c = (some M, r) ∧ Mok a b M) ?step ?fin ⟨⟨_, rfl⟩, _, _, _, _, rfl, L1, by omega, by omega, by omega⟩) ?post)
      case post =>
        rintro c st' ⟨⟨g, rfl⟩, M, r, rfl, hM⟩
        exact wpS_pure (h M g hM)
      case fin =>
        rintro c st' ⟨_, out, i, j, g, rfl, L, h1, h2, h3⟩
        omega
      case step =>
        rintro x c st' _ hx ⟨hst, out, i, j, g, rfl, L, h1, h2, h3⟩
        dsimp only
        refine wpS_bind (wpS_mono (wpS_forRange (I := fun y c st' => (∃ g, st' = sg st g) ∧ ∃ out i j ca cb, c = (none, out, i, j, ca, cb) ∧ Lo a b out i j ∧ j < b.size ∧ i + 1 < a.size ∧ x + y ≤ i + j)
          (Q := fun c st' => (∃ g, st' = sg st g) ∧ ((∃ M r, c = (some M, r) ∧ Mok a b M) ∨ ∃ out i j ca cb, c = (none, out, i, j, ca, cb) ∧ Lo a b out i j ∧ j < b.size ∧ i + 1 < a.size ∧ x + 1 ≤ i + j)) ?step1 ?fin1 ⟨hst, _, _, _, _, _, rfl, L, h1, h2, h3⟩) ?post1)
        case fin1 =>
          rintro c st' ⟨hst, out, i, j, ca, cb, rfl, L, h1, h2, h3⟩
          omega
        case step1 =>
          rintro y c st' _ hy ⟨⟨g', rfl⟩, out, i, j, ca, cb, rfl, L, h1, h2, h3⟩
          dsimp only
          refine wpS_bind (wp_el h1 (wpS_bind (wp_el (by omega) (wpS_bind (wp_lt2 (st := sg st g') hk (isI_at kb _) (isI_at ka _) ?_)))))
          by_cases lt : num b[j] < num (a[i]'(by omega))
          · simp only [decide_eq_true lt, if_true]
            refine wpS_bind (wp_el h1 ?_)
            have L' : Lo a b (out.push b[j]) i (j + 1) := L.takeB 1 (by omega) sb (fun p hp q hq => by
              rw [one_at h1] at hp
              rw [List.mem_singleton.mp hp]
              exact Int.le_trans (Int.le_of_lt lt) (head_le sa (by omega) q hq)) (by rw [Array.toList_push, one_at h1])
            by_cases v : (j + 1 == b.size) = true
            · rw [if_pos v]
              exact wpS_pure ⟨⟨_, rfl⟩, .inl ⟨_, _, rfl, L'.done sa sb (.inl (by simpa using v)) (by rw [Array.toList_append, Array.toList_append, ext_all, ext_all])⟩⟩
            · rw [if_neg v]
              have v' : ¬ j + 1 = b.size := by simpa using v
              split
              · exact wpS_pure ⟨⟨_, rfl⟩, .inr ⟨_, _, _, _, _, rfl, L', by omega, h2, by omega⟩⟩
              · exact wpS_pure ⟨⟨_, rfl⟩, _, _, _, _, _, rfl, L', by omega, h2, by omega⟩
          · simp only [decide_eq_false lt, Bool.false_eq_true, if_false]
            refine wpS_bind (wp_el (by omega) ?_)
            have L' : Lo a b (out.push (a[i]'(by omega))) (i + 1) j := L.takeA 1 (by omega) sa (fun p hp q hq => by
              rw [one_at (by omega)] at hp
              rw [List.mem_singleton.mp hp]
              exact Int.le_trans (Int.not_lt.mp lt) (head_le sb h1 q hq)) (by rw [Array.toList_push, one_at (by omega)])
            by_cases v : (i + 1 + 1 == a.size) = true
            · rw [if_pos v]
              have v' : i + 1 + 1 = a.size := by simpa using v
              refine wpS_pure ⟨⟨_, rfl⟩, .inl ⟨_, _, rfl, L'.last sb v' (fun p hp => ?_) (by rw [Array.toList_append, Array.toList_append, ext_all, ext_all])⟩⟩
              have := hl p hp
              simp only [show a.size - 1 = i + 1 by omega] at this
              exact this
            · rw [if_neg v]
              have v' : ¬ i + 1 + 1 = a.size := by simpa using v
              split
              · exact wpS_pure ⟨⟨_, rfl⟩, .inr ⟨_, _, _, _, _, rfl, L', h1, by omega, by omega⟩⟩
              · exact wpS_pure ⟨⟨_, rfl⟩, _, _, _, _, _, rfl, L', h1, by omega, by omega⟩
        case post1 =>
          rintro c st' ⟨hst, ⟨M, r, rfl, hM⟩ | ⟨out, i, j, ca, cb, rfl, L, h1, h2, h3⟩⟩
          · dsimp only
            exact wpS_pure ⟨hst, M, _, rfl, hM⟩
          · dsimp only
            refine wpS_bind (wpS_lift (wpAny_rule ⟨rfl, ?_⟩))
            refine wpS_bind (wpS_mono (wpS_forRange (I := fun y c st' => Post2 a b st (x + 1 + y) c st' ∧ c.1 = none) (Q := Post2 a b st (x + 1)) ?step2 ?fin2 ⟨⟨hst, .inr ⟨_, _, _, _, _, _, rfl, L, h1, h2, h3⟩⟩, rfl⟩) ?post2)
            case post2 =>
              rintro c st' ⟨hst, ⟨M, r, rfl, hM⟩ | ⟨out, i, j, g, ca, cb, rfl, L, h1, h2, h3⟩⟩
              · dsimp only
                exact wpS_pure ⟨hst, M, _, rfl, hM⟩
              · dsimp only
                obtain ⟨g', rfl⟩ := hst
                exact wpS_bind (wpS_modify (wpS_pure ⟨⟨_, rfl⟩, _, _, _, _, rfl, L, h1, h2, by omega⟩))
            case fin2 =>
              rintro c st' ⟨⟨hst, ⟨M, r, rfl, hM⟩ | ⟨out, i, j, g, ca, cb, rfl, L, h1, h2, h3⟩⟩, e⟩
              · cases e
              · omega
            case step2 =>
              rintro y c st' _ hy ⟨⟨⟨g', rfl⟩, ⟨M, r, rfl, hM⟩ | ⟨out, i, j, g, ca, cb, rfl, L, h1, h2, h3⟩⟩, e⟩
              · cases e
              · dsimp only
                by_cases g1 : g > 1
                · rw [if_pos g1]
                  exact wpS_mono (wp_bodyLo (lo := x + 1 + (y + 1)) (g := g - 1) (ca := ca) (cb := cb) hk ka kb sa sb ⟨_, rfl⟩ L h2 h1 (by omega) hl) fun r st2 h => by
                    cases r with
                    | done c => exact Post2.le h (by omega)
                    | yield c => exact h
                · rw [if_neg g1]
                  exact wpS_mono (wp_bodyLo (lo := x + 1 + (y + 1)) (g := g) (ca := ca) (cb := cb) hk ka kb sa sb ⟨_, rfl⟩ L h2 h1 (by omega) hl) fun r st2 h => by
                    cases r with
                    | done c => exact Post2.le h (by omega)
                    | yield c => exact h
end
end Tim
set_option Elab.async false
set_option linter.all false
set_option maxRecDepth 100000
namespace Tim
open PySem PyProof.Rows
structure Hi (a b out : Array Keyed) (na nb : Nat) : Prop where
  ha : na ≤ a.size
  hb : nb ≤ b.size
  perm : ((a.toList.take na ++ b.toList.take nb) ++ out.toList.reverse).Perm (a.toList ++ b.toList)
  srt : Srt out.toList.reverse
  le : ∀ q ∈ a.toList.take na ++ b.toList.take nb, ∀ p ∈ out.toList.reverse, num q ≤ num p
theorem cutB {α : Type} (l : List α) {m n : Nat} (h : m ≤ n) : l.take n = l.take m ++ (l.take n).drop m := by
  conv => lhs; rw [← List.take_append_drop m (l.take n)]
  rw [List.take_take, Nat.min_eq_left h]
theorem Hi.takeA {a b out out' : Array Keyed} {na nb : Nat} (L : Hi a b out na nb) (m : Nat) (hm : m ≤ na) (sa : Srt a.toList) (hle : ∀ p ∈ (a.toList.take na).drop m, ∀ q ∈ b.toList.take nb, num q ≤ num p)
    (e : out'.toList.reverse = (a.toList.take na).drop m ++ out.toList.reverse) : Hi a b out' m nb := by
  have c := cutB a.toList hm
  have sd : Srt (a.toList.take na) := sa.sublist (List.take_sublist _ _)
  rw [c] at sd
  obtain ⟨s1, s2, s3⟩ := List.pairwise_append.mp sd
  refine ⟨Nat.le_trans hm L.ha, L.hb, ?_, ?_, fun q hq p hp => ?_⟩
  · refine List.Perm.trans ?_ L.perm
    rw [e, ← List.append_assoc]
    refine List.Perm.append_right _ ?_
    conv => rhs; rw [c]
    rw [List.append_assoc, List.append_assoc]
    exact List.Perm.append_left _ List.perm_append_comm
  · rw [e]
    refine List.pairwise_append.mpr ⟨s2, L.srt, fun p hp q hq => L.le p (List.mem_append.mpr (.inl ?_)) q hq⟩
    rw [c]
    exact List.mem_append.mpr (.inr hp)
  · rw [e] at hp
    rcases List.mem_append.mp hp with hp | hp
    · rcases List.mem_append.mp hq with hq | hq
      · exact s3 q hq p hp
      · exact hle p hp q hq
    · refine L.le q ?_ p hp
      rcases List.mem_append.mp hq with hq | hq
      · refine List.mem_append.mpr (.inl ?_)
        rw [c]
        exact List.mem_append.mpr (.inl hq)
      · exact List.mem_append.mpr (.inr hq)
theorem Hi.takeB {a b out out' : Array Keyed} {na nb : Nat} (L : Hi a b out na nb) (m : Nat) (hm : m ≤ nb) (sb : Srt b.toList) (hle : ∀ p ∈ (b.toList.take nb).drop m, ∀ q ∈ a.toList.take na, num q ≤ num p)
    (e : out'.toList.reverse = (b.toList.take nb).drop m ++ out.toList.reverse) : Hi a b out' na m := by
  have c := cutB b.toList hm
  have sd : Srt (b.toList.take nb) := sb.sublist (List.take_sublist _ _)
  rw [c] at sd
  obtain ⟨s1, s2, s3⟩ := List.pairwise_append.mp sd
  refine ⟨L.ha, Nat.le_trans hm L.hb, ?_, ?_, fun q hq p hp => ?_⟩
  · refine List.Perm.trans ?_ L.perm
    rw [e, ← List.append_assoc]
    refine List.Perm.append_right _ ?_
    conv => rhs; rw [c]
    rw [List.append_assoc]
  · rw [e]
    refine List.pairwise_append.mpr ⟨s2, L.srt, fun p hp q hq => L.le p (List.mem_append.mpr (.inr ?_)) q hq⟩
    rw [c]
    exact List.mem_append.mpr (.inr hp)
  · rw [e] at hp
    rcases List.mem_append.mp hp with hp | hp
    · rcases List.mem_append.mp hq with hq | hq
      · exact hle p hp q hq
      · exact s3 q hq p hp
    · refine L.le q ?_ p hp
      rcases List.mem_append.mp hq with hq | hq
      · exact List.mem_append.mpr (.inl hq)
      · refine List.mem_append.mpr (.inr ?_)
        rw [c]
        exact List.mem_append.mpr (.inl hq)
theorem Hi.done {a b out M : Array Keyed} {na nb : Nat} (L : Hi a b out na nb) (sa : Srt a.toList) (sb : Srt b.toList) (h : na = 0 ∨ nb = 0) (e : M.toList = a.toList.take na ++ b.toList.take nb ++ out.toList.reverse) : Mok a b M := by
  refine ⟨by rw [e]; exact L.perm, ?_⟩
  rw [e]
  refine List.pairwise_append.mpr ⟨?_, L.srt, L.le⟩
  rcases h with h | h
  · rw [h, List.take_zero, List.nil_append]
    exact sb.sublist (List.take_sublist _ _)
  · rw [h, List.take_zero, List.append_nil]
    exact sa.sublist (List.take_sublist _ _)
theorem Hi.first {a b out M : Array Keyed} {na nb : Nat} (L : Hi a b out na nb) (sa : Srt a.toList) (b1 : 0 < b.size) (hf : ∀ q ∈ a.toList, num b[0] ≤ num q) (h1 : nb = 1) (e : M.toList = b.toList.take nb ++ a.toList.take na ++ out.toList.reverse) : Mok a b M := by
  subst h1
  refine ⟨?_, ?_⟩
  · rw [e]
    exact (List.Perm.append_right _ List.perm_append_comm).trans L.perm
  · rw [e]
    refine List.pairwise_append.mpr ⟨?_, L.srt, fun p hp q hq => L.le p (List.perm_append_comm.mem_iff.mp hp) q hq⟩
    have d : b.toList.take 1 = [b[0]] := by
      have := one_at b1
      rwa [List.drop_zero] at this
    rw [d]
    refine List.pairwise_append.mpr ⟨List.pairwise_singleton _ _, sa.sublist (List.take_sublist _ _), fun p hp q hq => ?_⟩
    rw [List.mem_singleton.mp hp]
    exact hf q (List.mem_of_mem_take hq)
theorem ext_0 (a : Array Keyed) (n : Nat) : (a.extract 0 n).toList = a.toList.take n := by
  rw [Array.toList_extract]
  simp [List.extract]
theorem ext_mid (a : Array Keyed) (m n : Nat) : (a.extract m n).toList = (a.toList.take n).drop m := by
  rw [Array.toList_extract]
  simp [List.extract, List.drop_take]
theorem last_at {a : Array Keyed} {n : Nat} (h : n < a.size) : (a.toList.take (n + 1)).drop n = [a[n]] := by
  rw [List.drop_take, Nat.add_sub_cancel_left, one_at h]
theorem mem_takeH {a : Array Keyed} {n : Nat} {q : Keyed} (h : q ∈ a.toList.take n) : ∃ x, ∃ hx : x < a.size, x < n ∧ q = a[x] := by
  have := mem_takeI (a := a) (i := 0) (k := n) (by rw [List.drop_zero]; exact h)
  obtain ⟨x, hx, hn, e⟩ := this
  refine ⟨x, by omega, hn, ?_⟩
  rw [e]
  simp only [Nat.zero_add]
theorem mem_midH {a : Array Keyed} {m n : Nat} {q : Keyed} (h : q ∈ (a.toList.take n).drop m) : ∃ x, ∃ hx : x < a.size, m ≤ x ∧ x < n ∧ q = a[x] := by
  rw [List.drop_take] at h
  obtain ⟨x, hx, hn, e⟩ := mem_takeI h
  exact ⟨m + x, hx, by omega, by omega, e⟩
theorem last_ge {a : Array Keyed} (h : Srt a.toList) {n : Nat} (hn : n < a.size) : ∀ q ∈ a.toList.take (n + 1), num q ≤ num a[n] := by
  intro q hq
  obtain ⟨x, hx, hxn, rfl⟩ := mem_takeH hq
  rw [num_at hn, num_at hx]
  exact seg_of h (i := 0) (n := a.size) (by omega) x n (by omega) (by omega) (by omega)
def mHi : Array Keyed → Array Keyed → StateT SortSt Sem (Array Keyed) := sortPriv% PySem.Builtin.mergeHi
theorem mHi_eq (a b : Array Keyed) : mHi a b = (do
    rule "list.sort.merge-hi"
    let T := a.size + b.size
    let fin1 (out : Array Keyed) (i j : Nat) := a.extract 0 i ++ b.extract 0 j ++ out.reverse
    let fin2 (out : Array Keyed) (i j : Nat) := b.extract 0 j ++ a.extract 0 i ++ out.reverse
    let mut i := a.size - 1
    let mut j := b.size
    let mut out : Array Keyed := #[← elem' a i]
    if i == 0 then return fin1 out i j
    if j == 1 then return fin2 out i j
    let mut g := gallopOf (← get)
    for _ in [0:T] do
      let mut ca := 0
      let mut cb := 0
      for _ in [0:T] do
        let some r ← lt' (← elem' b (j - 1)) (← elem' a (i - 1)) | return fin1 out i j
        if r then
          i := i - 1
          out := out.push (← elem' a i)
          ca := ca + 1
          cb := 0
          if i == 0 then return fin1 out i j
          if ca ≥ g then break
        else
          j := j - 1
          out := out.push (← elem' b j)
          cb := cb + 1
          ca := 0
          if j == 1 then return fin2 out i j
          if cb ≥ g then break
      rule "list.sort.gallop"
      g := g + 1
      for _ in [0:T] do
        if g > 1 then g := g - 1
        modify fun st => sg st g
        let some m ← gal false (← elem' b (j - 1)) a 0 i (i - 1) | return fin1 out i j
        let k := i - m
        ca := k
        if k > 0 then
          out := out ++ (a.extract m i).reverse
          i := m
          if i == 0 then return fin1 out i j
        j := j - 1
        out := out.push (← elem' b j)
        if j == 1 then return fin2 out i j
        let some m ← gal true (← elem' a (i - 1)) b 0 j (j - 1) | return fin1 out i j
        let k := j - m
        cb := k
        if k > 0 then
          out := out ++ (b.extract m j).reverse
          j := m
          if j == 1 then return fin2 out i j
          if j == 0 then return fin1 out i j
        i := i - 1
        out := out.push (← elem' a i)
        if i == 0 then return fin1 out i j
        if ca < 7 && cb < 7 then break
      g := g + 1
      modify fun st => sg st g
    unsupported "internal:list.sort.merge-bound") := by rfl
theorem Hi.pushA {a b out : Array Keyed} {i j : Nat} (L : Hi a b out i j) (sa : Srt a.toList) (hi : 0 < i) (hs : i - 1 < a.size) (hle : ∀ q ∈ b.toList.take j, num q ≤ num a[i - 1]) : Hi a b (out.push a[i - 1]) (i - 1) j := by
  obtain ⟨i, rfl⟩ : ∃ i', i = i' + 1 := ⟨i - 1, by omega⟩
  simp only [Nat.add_sub_cancel] at hle hs ⊢
  refine L.takeA i (by omega) sa (fun p hp q hq => ?_) (by rw [Array.toList_push, List.reverse_append, last_at hs]; rfl)
  rw [last_at hs] at hp
  rw [List.mem_singleton.mp hp]
  exact hle q hq
theorem Hi.pushB {a b out : Array Keyed} {i j : Nat} (L : Hi a b out i j) (sb : Srt b.toList) (hj : 0 < j) (hs : j - 1 < b.size) (hle : ∀ q ∈ a.toList.take i, num q ≤ num b[j - 1]) : Hi a b (out.push b[j - 1]) i (j - 1) := by
  obtain ⟨j, rfl⟩ : ∃ j', j = j' + 1 := ⟨j - 1, by omega⟩
  simp only [Nat.add_sub_cancel] at hle hs ⊢
  refine L.takeB j (by omega) sb (fun p hp q hq => ?_) (by rw [Array.toList_push, List.reverse_append, last_at hs]; rfl)
  rw [last_at hs] at hp
  rw [List.mem_singleton.mp hp]
  exact hle q hq
theorem last_ge' {a : Array Keyed} (h : Srt a.toList) {n : Nat} (h0 : 0 < n) (hn : n - 1 < a.size) : ∀ q ∈ a.toList.take n, num q ≤ num a[n - 1] := by
  have := last_ge h hn
  rwa [show n - 1 + 1 = n by omega] at this
theorem fin_eq (x y out : Array Keyed) (i j : Nat) : (x.extract 0 i ++ y.extract 0 j ++ out.reverse).toList = x.toList.take i ++ y.toList.take j ++ out.toList.reverse := by
  rw [Array.toList_append, Array.toList_append, ext_0, ext_0, Array.toList_reverse]
theorem app_eq (out x : Array Keyed) (m n : Nat) : (out ++ (x.extract m n).reverse).toList.reverse = (x.toList.take n).drop m ++ out.toList.reverse := by
  rw [Array.toList_append, List.reverse_append, Array.toList_reverse, List.reverse_reverse, ext_mid]
abbrev RHi := Option (Array Keyed) × Nat × Nat × Array Keyed × Nat × Nat × Nat
def endHi (a b : Array Keyed) (k l : Nat) (out : Array Keyed) (i j g : Nat) : StateT SortSt Sem (ForInStep RHi) := do
  let y ← elem' a (i - 1)
  if (i - 1 == 0) = true then pure (.done (some (a.extract 0 (i - 1) ++ b.extract 0 j ++ (out.push y).reverse), i - 1, j, out.push y, g, k, l))
  else if (decide (k < 7) && decide (l < 7)) = true then pure (.done (none, i - 1, j, out.push y, g, k, l)) else pure (.yield (none, i - 1, j, out.push y, g, k, l))
def tailHi (a b : Array Keyed) (k : Nat) (out : Array Keyed) (i j g cb : Nat) : StateT SortSt Sem (ForInStep RHi) := do
  let e ← elem' b (j - 1)
  if (j - 1 == 1) = true then pure (.done (some (b.extract 0 (j - 1) ++ a.extract 0 i ++ (out.push e).reverse), i, j - 1, out.push e, g, k, cb)) else do
    let y ← elem' a (i - 1)
    let r ← gal true y b 0 (j - 1) (j - 1 - 1)
    match r with
    | some m =>
      if j - 1 - m > 0 then
        if (m == 1) = true then pure (.done (some (b.extract 0 m ++ a.extract 0 i ++ (out.push e ++ (b.extract m (j - 1)).reverse).reverse), i, m, out.push e ++ (b.extract m (j - 1)).reverse, g, k, j - 1 - m))
        else if (m == 0) = true then pure (.done (some (a.extract 0 i ++ b.extract 0 m ++ (out.push e ++ (b.extract m (j - 1)).reverse).reverse), i, m, out.push e ++ (b.extract m (j - 1)).reverse, g, k, j - 1 - m))
        else endHi a b k (j - 1 - m) (out.push e ++ (b.extract m (j - 1)).reverse) i m g
      else endHi a b k (j - 1 - m) (out.push e) i (j - 1) g
    | _ => pure (.done (some (a.extract 0 i ++ b.extract 0 (j - 1) ++ (out.push e).reverse), i, j - 1, out.push e, g, k, cb))
def bodyHi (a b out : Array Keyed) (i j g ca cb : Nat) : StateT SortSt Sem (ForInStep RHi) := do
  modify fun st => sg st g
  let e ← elem' b (j - 1)
  let r ← gal false e a 0 i (i - 1)
  match r with
  | some m =>
    if i - m > 0 then
      if (m == 0) = true then pure (.done (some (a.extract 0 m ++ b.extract 0 j ++ (out ++ (a.extract m i).reverse).reverse), m, j, out ++ (a.extract m i).reverse, g, i - m, cb))
      else tailHi a b (i - m) (out ++ (a.extract m i).reverse) m j g cb
    else tailHi a b (i - m) out i j g cb
  | _ => pure (.done (some (a.extract 0 i ++ b.extract 0 j ++ out.reverse), i, j, out, g, ca, cb))
def Post3 (a b : Array Keyed) (st : SortSt) (up : Nat) (c : RHi) (st' : SortSt) : Prop :=
  (∃ g, st' = sg st g) ∧ ((∃ M r, c = (some M, r) ∧ Mok a b M) ∨ ∃ i j out g ca cb, c = (none, i, j, out, g, ca, cb) ∧ Hi a b out i j ∧ 0 < i ∧ 1 < j ∧ i + j + up ≤ a.size + b.size)
theorem Post3.le {a b : Array Keyed} {st st' : SortSt} {up up' : Nat} {c : RHi} (h : Post3 a b st up c st') (hl : up' ≤ up) : Post3 a b st up' c st' := by
  obtain ⟨hst, h | ⟨i, j, out, g, ca, cb, e, L, h1, h2, h3⟩⟩ := h
  · exact ⟨hst, .inl h⟩
  · exact ⟨hst, .inr ⟨i, j, out, g, ca, cb, e, L, h1, h2, by omega⟩⟩
section
variable {prog : Program} {w : World} {A : Around} {E : Value → Shared → Prop} {s : Shared}
theorem wp_endHi {st st' : SortSt} {a b out : Array Keyed} {k l i j g up : Nat} (sa : Srt a.toList) (sb : Srt b.toList) (hst : ∃ g, st' = sg st g) (L : Hi a b out i j) (hi : 0 < i) (hj : 1 < j) (hup : i - 1 + j + up ≤ a.size + b.size)
    (hle : ∀ q ∈ b.toList.take j, num q ≤ num (a[i - 1]'(by have := L.ha; omega))) :
    wpS (model prog w) A E s (endHi a b k l out i j g) (fun r st' => match r with | .done c => Post3 a b st up c st' | .yield c => Post3 a b st up c st' ∧ c.1 = none) st' := by
  have hi' := L.ha
  unfold endHi
  refine wpS_bind (wp_el (by omega) ?_)
  have L' := L.pushA sa hi (by omega) hle
  by_cases z : (i - 1 == 0) = true
  · rw [if_pos z]
    exact wpS_pure ⟨hst, .inl ⟨_, _, rfl, L'.done sa sb (.inl (by simpa using z)) (fin_eq ..)⟩⟩
  · rw [if_neg z]
    have z' : ¬ i - 1 = 0 := by simpa using z
    split
    · exact wpS_pure ⟨hst, .inr ⟨_, _, _, _, _, _, rfl, L', by omega, hj, by omega⟩⟩
    · exact wpS_pure ⟨⟨hst, .inr ⟨_, _, _, _, _, _, rfl, L', by omega, hj, by omega⟩⟩, rfl⟩
theorem wp_tailHi {st st' : SortSt} {a b out : Array Keyed} {k i j g cb up : Nat} (hk : kindOf st = oneType') (ka : IntKeys a) (kb : IntKeys b) (sa : Srt a.toList) (sb : Srt b.toList) (hst : ∃ g, st' = sg st g) (L : Hi a b out i j) (hi : 0 < i) (hj : 1 < j) (hup : i + j + up ≤ a.size + b.size + 1)
    (hle : ∀ q ∈ a.toList.take i, num q ≤ num (b[j - 1]'(by have := L.hb; omega))) (b1 : 0 < b.size) (hf : ∀ q ∈ a.toList, num b[0] ≤ num q) :
    wpS (model prog w) A E s (tailHi a b k out i j g cb) (fun r st' => match r with | .done c => Post3 a b st up c st' | .yield c => Post3 a b st up c st' ∧ c.1 = none) st' := by
  obtain ⟨g0, rfl⟩ := hst
  have hi' := L.ha
  have hj' := L.hb
  unfold tailHi
  refine wpS_bind (wp_el (by omega) ?_)
  have L' := L.pushB sb (by omega) (by omega) hle
  by_cases z : (j - 1 == 1) = true
  · rw [if_pos z]
    have z' : j - 1 = 1 := by simpa using z
    exact wpS_pure ⟨⟨_, rfl⟩, .inl ⟨_, _, rfl, L'.first sa b1 hf z' (fin_eq ..)⟩⟩
  · rw [if_neg z]
    have z' : ¬ j - 1 = 1 := by simpa using z
    refine wpS_bind (wp_el (by omega) ?_)
    refine wpS_bind (wp_gal (st := sg st g0) hk kb (isI_at ka _) (by omega) (by omega) (by simpa using seg_of sb (i := 0) (n := j - 1) (by omega)) fun m m1 m2 m3 => ?_)
    dsimp only
    simp only [Nat.zero_add] at m2 m3
    have m2' : ∀ q ∈ b.toList.take m, num q ≤ num (a[i - 1]'(by omega)) := fun q hq => by
      obtain ⟨x, hx, hxm, rfl⟩ := mem_takeH hq
      rw [num_at hx]
      exact Int.le_of_lt (m2 x hxm)
    have m3' : ∀ p ∈ (b.toList.take (j - 1)).drop m, num (a[i - 1]'(by omega)) ≤ num p := fun p hp => by
      obtain ⟨x, hx, hm, hn, rfl⟩ := mem_midH hp
      rw [num_at hx]
      exact Int.not_lt.mp (m3 x hm hn)
    by_cases y : j - 1 - m > 0
    · rw [if_pos y]
      have L2 : Hi a b (out.push (b[j - 1]'(by omega)) ++ (b.extract m (j - 1)).reverse) i m := L'.takeB m (by omega) sb (fun p hp q hq => Int.le_trans (last_ge' sa hi (by omega) q hq) (m3' p hp)) (app_eq ..)
      by_cases v : (m == 1) = true
      · rw [if_pos v]
        have v' : m = 1 := by simpa using v
        exact wpS_pure ⟨⟨_, rfl⟩, .inl ⟨_, _, rfl, L2.first sa b1 hf v' (fin_eq ..)⟩⟩
      · rw [if_neg v]
        have v' : ¬ m = 1 := by simpa using v
        by_cases u : (m == 0) = true
        · rw [if_pos u]
          exact wpS_pure ⟨⟨_, rfl⟩, .inl ⟨_, _, rfl, L2.done sa sb (.inr (by simpa using u)) (fin_eq ..)⟩⟩
        · rw [if_neg u]
          have u' : ¬ m = 0 := by simpa using u
          exact wp_endHi sa sb ⟨_, rfl⟩ L2 hi (by omega) (by omega) m2'
    · rw [if_neg y]
      have y0 : m = j - 1 := by omega
      rw [y0] at m2'
      exact wp_endHi sa sb ⟨_, rfl⟩ L' hi (by omega) (by omega) m2'
theorem wp_bodyHi {st st' : SortSt} {a b out : Array Keyed} {i j g ca cb up : Nat} (hk : kindOf st = oneType') (ka : IntKeys a) (kb : IntKeys b) (sa : Srt a.toList) (sb : Srt b.toList) (hst : ∃ g, st' = sg st g) (L : Hi a b out i j) (hi : 0 < i) (hj : 1 < j) (hup : i + j + up ≤ a.size + b.size + 1)
    (b1 : 0 < b.size) (hf : ∀ q ∈ a.toList, num b[0] ≤ num q) :
    wpS (model prog w) A E s (bodyHi a b out i j g ca cb) (fun r st' => match r with | .done c => Post3 a b st up c st' | .yield c => Post3 a b st up c st' ∧ c.1 = none) st' := by
  obtain ⟨g0, rfl⟩ := hst
  have hi' := L.ha
  have hj' := L.hb
  unfold bodyHi
  refine wpS_bind (wpS_modify (wpS_bind (wp_el (by omega) ?_)))
  refine wpS_bind (wp_gal (st := sg st g) hk ka (isI_at kb _) (by omega) (by omega) (by simpa using seg_of sa (i := 0) (n := i) (by omega)) fun m m1 m2 m3 => ?_)
  dsimp only
  simp only [Nat.zero_add] at m2 m3
  have m2' : ∀ q ∈ a.toList.take m, num q ≤ num (b[j - 1]'(by omega)) := fun q hq => by
    obtain ⟨x, hx, hxm, rfl⟩ := mem_takeH hq
    rw [num_at hx]
    exact m2 x hxm
  have m3' : ∀ p ∈ (a.toList.take i).drop m, num (b[j - 1]'(by omega)) ≤ num p := fun p hp => by
    obtain ⟨x, hx, hm, hn, rfl⟩ := mem_midH hp
    rw [num_at hx]
    exact Int.le_of_lt (Int.not_le.mp (m3 x hm hn))
  by_cases y : i - m > 0
  · rw [if_pos y]
    have L2 : Hi a b (out ++ (a.extract m i).reverse) m j := L.takeA m (by omega) sa (fun p hp q hq => Int.le_trans (last_ge' sb (by omega) (by omega) q hq) (m3' p hp)) (app_eq ..)
    by_cases u : (m == 0) = true
    · rw [if_pos u]
      exact wpS_pure ⟨⟨_, rfl⟩, .inl ⟨_, _, rfl, L2.done sa sb (.inl (by simpa using u)) (fin_eq ..)⟩⟩
    · rw [if_neg u]
      have u' : ¬ m = 0 := by simpa using u
      exact wp_tailHi hk ka kb sa sb ⟨_, rfl⟩ L2 (by omega) hj (by omega) m2' b1 hf
  · rw [if_neg y]
    have y0 : m = i := by omega
    rw [y0] at m2'
    exact wp_tailHi hk ka kb sa sb ⟨_, rfl⟩ L hi hj (by omega) m2' b1 hf
theorem wp_mHi {st : SortSt} {a b : Array Keyed} {Q : Array Keyed → SortSt → Prop} (hk : kindOf st = oneType') (ka : IntKeys a) (kb : IntKeys b) (sa : Srt a.toList) (sb : Srt b.toList) (a1 : 0 < a.size) (b1 : 0 < b.size)
    (hf : ∀ q ∈ a.toList, num b[0] ≤ num q) (hl : ∀ p ∈ b.toList, num p ≤ num (a[a.size - 1]'(by omega))) (h : ∀ M g, Mok a b M → Q M (sg st g)) : wpS (model prog w) A E s (mHi a b) Q st := by
  rw [mHi_eq]
  dsimp only
  refine wpS_bind (wpS_lift (wpAny_rule ⟨rfl, ?_⟩))
  refine wpS_bind (wp_el (by omega) ?_)
  have L0 : Hi a b #[] a.size b.size := ⟨Nat.le_refl _, Nat.le_refl _, by rw [List.take_of_length_le (by simp), List.take_of_length_le (by simp)]; simp, by simp, fun q hq p hp => by simp at hp⟩
  have L1 : Hi a b #[a[a.size - 1]'(by omega)] (a.size - 1) b.size := L0.pushA sa a1 (by omega) fun q hq => hl q (List.mem_of_mem_take hq)
  by_cases z : (a.size - 1 == 0) = true
  · rw [if_pos z]
    exact wpS_pure (h _ (gallopOf st) (L1.done sa sb (.inl (by simpa using z)) (fin_eq ..)))
  · rw [if_neg z]
    have z' : ¬ a.size - 1 = 0 := by simpa using z
    by_cases y : (b.size == 1) = true
    · rw [if_pos y]
      have y' : b.size = 1 := by simpa using y
      exact wpS_pure (h _ (gallopOf st) (L1.first sa b1 hf y' (fin_eq ..)))
    · rw [if_neg y]
      have y' : ¬ b.size = 1 := by simpa using y
      refine wpS_bind (wpS_get ?_)
      refine wpS_bind (wpS_mono (wpS_forRange (I := fun x c st' => (∃ g, st' = sg st g) ∧ ∃ i j out g, c = (none, i, j, out, g) ∧ Hi a b out i j ∧ 0 < i ∧ 1 < j ∧ i + j + x ≤ a.size + b.size)
        (Q := fun c st' => (∃ g, st' = sg st g) ∧ ∃ M r, c = (some M, r) ∧ Mok a b M) ?step ?fin ⟨⟨_, rfl⟩, _, _, _, _, rfl, L1, by omega, by omega, by omega⟩) ?post)
      case post =>
        rintro c st' ⟨⟨g, rfl⟩, M, r, rfl, hM⟩
        exact wpS_pure (h M g hM)
      case fin =>
        rintro c st' ⟨_, i, j, out, g, rfl, L, h1, h2, h3⟩
        omega
      case step =>
        rintro x c st' _ hx ⟨hst, i, j, out, g, rfl, L, h1, h2, h3⟩
        dsimp only
        refine wpS_bind (wpS_mono (wpS_forRange (I := fun y c st' => (∃ g, st' = sg st g) ∧ ∃ i j out ca cb, c = (none, i, j, out, ca, cb) ∧ Hi a b out i j ∧ 0 < i ∧ 1 < j ∧ i + j + (x + y) ≤ a.size + b.size)
          (Q := fun c st' => (∃ g, st' = sg st g) ∧ ((∃ M r, c = (some M, r) ∧ Mok a b M) ∨ ∃ i j out ca cb, c = (none, i, j, out, ca, cb) ∧ Hi a b out i j ∧ 0 < i ∧ 1 < j ∧ i + j + (x + 1) ≤ a.size + b.size)) ?step1 ?fin1 ⟨hst, _, _, _, _, _, rfl, L, h1, h2, h3⟩) ?post1)
        case fin1 =>
          rintro c st' ⟨hst, i, j, out, ca, cb, rfl, L, h1, h2, h3⟩
          omega
        case step1 =>
          rintro y c st' _ hy ⟨⟨g', rfl⟩, i, j, out, ca, cb, rfl, L, h1, h2, h3⟩
          dsimp only
          have hi' := L.ha
          have hj' := L.hb
          refine wpS_bind (wp_el (by omega) (wpS_bind (wp_el (by omega) (wpS_bind (wp_lt2 (st := sg st g') hk (isI_at kb _) (isI_at ka _) ?_)))))
          by_cases lt : num (b[j - 1]'(by omega)) < num (a[i - 1]'(by omega))
          · simp only [decide_eq_true lt, if_true]
            refine wpS_bind (wp_el (by omega) ?_)
            have L' := L.pushA sa h1 (by omega) fun q hq => Int.le_trans (last_ge' sb (by omega) (by omega) q hq) (Int.le_of_lt lt)
            by_cases v : (i - 1 == 0) = true
            · rw [if_pos v]
              exact wpS_pure ⟨⟨_, rfl⟩, .inl ⟨_, _, rfl, L'.done sa sb (.inl (by simpa using v)) (fin_eq ..)⟩⟩
            · rw [if_neg v]
              have v' : ¬ i - 1 = 0 := by simpa using v
              split
              · exact wpS_pure ⟨⟨_, rfl⟩, .inr ⟨_, _, _, _, _, rfl, L', by omega, h2, by omega⟩⟩
              · exact wpS_pure ⟨⟨_, rfl⟩, _, _, _, _, _, rfl, L', by omega, h2, by omega⟩
          · simp only [decide_eq_false lt, Bool.false_eq_true, if_false]
            refine wpS_bind (wp_el (by omega) ?_)
            have L' := L.pushB sb (by omega) (by omega) fun q hq => Int.le_trans (last_ge' sa h1 (by omega) q hq) (Int.not_lt.mp lt)
            by_cases v : (j - 1 == 1) = true
            · rw [if_pos v]
              have v' : j - 1 = 1 := by simpa using v
              exact wpS_pure ⟨⟨_, rfl⟩, .inl ⟨_, _, rfl, L'.first sa b1 hf v' (fin_eq ..)⟩⟩
            · rw [if_neg v]
              have v' : ¬ j - 1 = 1 := by simpa using v
              split
              · exact wpS_pure ⟨⟨_, rfl⟩, .inr ⟨_, _, _, _, _, rfl, L', h1, by omega, by omega⟩⟩
              · exact wpS_pure ⟨⟨_, rfl⟩, _, _, _, _, _, rfl, L', h1, by omega, by omega⟩
        case post1 =>
          rintro c st' ⟨hst, ⟨M, r, rfl, hM⟩ | ⟨i, j, out, ca, cb, rfl, L, h1, h2, h3⟩⟩
          · dsimp only
            exact wpS_pure ⟨hst, M, _, rfl, hM⟩
          · dsimp only
            refine wpS_bind (wpS_lift (wpAny_rule ⟨rfl, ?_⟩))
            refine wpS_bind (wpS_mono (wpS_forRange (I := fun y c st' => Post3 a b st (x + 1 + y) c st' ∧ c.1 = none) (Q := Post3 a b st (x + 1)) ?step2 ?fin2 ⟨⟨hst, .inr ⟨_, _, _, _, _, _, rfl, L, h1, h2, h3⟩⟩, rfl⟩) ?post2)
            case post2 =>
              rintro c st' ⟨hst, ⟨M, r, rfl, hM⟩ | ⟨i, j, out, g, ca, cb, rfl, L, h1, h2, h3⟩⟩
              · dsimp only
                exact wpS_pure ⟨hst, M, _, rfl, hM⟩
              · dsimp only
                obtain ⟨g', rfl⟩ := hst
                exact wpS_bind (wpS_modify (wpS_pure ⟨⟨_, rfl⟩, _, _, _, _, rfl, L, h1, h2, by omega⟩))
            case fin2 =>
              rintro c st' ⟨⟨hst, ⟨M, r, rfl, hM⟩ | ⟨i, j, out, g, ca, cb, rfl, L, h1, h2, h3⟩⟩, e⟩
              · cases e
              · omega
            case step2 =>
              rintro y c st' _ hy ⟨⟨⟨g', rfl⟩, ⟨M, r, rfl, hM⟩ | ⟨i, j, out, g, ca, cb, rfl, L, h1, h2, h3⟩⟩, e⟩
              · cases e
              · dsimp only
                by_cases g1 : g > 1
                · rw [if_pos g1]
                  exact wpS_mono (wp_bodyHi (up := x + 1 + (y + 1)) (g := g - 1) (ca := ca) (cb := cb) hk ka kb sa sb ⟨_, rfl⟩ L h1 h2 (by omega) b1 hf) fun r st2 h => by
                    cases r with
                    | done c => exact Post3.le h (by omega)
                    | yield c => exact h
                · rw [if_neg g1]
                  exact wpS_mono (wp_bodyHi (up := x + 1 + (y + 1)) (g := g) (ca := ca) (cb := cb) hk ka kb sa sb ⟨_, rfl⟩ L h1 h2 (by omega) b1 hf) fun r st2 h => by
                    cases r with
                    | done c => exact Post3.le h (by omega)
                    | yield c => exact h
end
end Tim
set_option Elab.async false
set_option linter.all false
set_option maxRecDepth 100000
namespace Tim
open PySem PyProof.Rows
theorem wr_get {α : Type} (o : Nat) : ∀ (M : List α) (n : Nat) (X : Array α), o + n + M.length ≤ X.size → ∀ t : Nat, ((M.zipIdx n).foldl (fun a (q : α × Nat) => a.setIfInBounds (o + q.2) q.1) X)[t]? = if o + n ≤ t ∧ t < o + n + M.length then M[t - (o + n)]? else X[t]?
  | [], n, X, _, t => by
    rw [if_neg (by simp only [List.length_nil]; omega)]
    rfl
  | q :: M, n, X, hz, t => by
    rw [List.length_cons] at hz ⊢
    have ih := wr_get o M (n + 1) (X.setIfInBounds (o + n) q) (by rw [Array.size_setIfInBounds]; omega) t
    show ((M.zipIdx (n + 1)).foldl (fun a (q : α × Nat) => a.setIfInBounds (o + q.2) q.1) (X.setIfInBounds (o + n) q))[t]? = _
    rw [ih]
    by_cases h1 : t = o + n
    · subst h1
      rw [if_neg (by omega), if_pos (by omega), Array.getElem?_setIfInBounds_self_of_lt (by omega)]
      simp
    · by_cases h2 : o + (n + 1) ≤ t ∧ t < o + (n + 1) + M.length
      · rw [if_pos h2, if_pos (by omega)]
        rw [show t - (o + n) = (t - (o + (n + 1))) + 1 by omega]
        rfl
      · rw [if_neg h2, if_neg (by omega), Array.getElem?_setIfInBounds_ne (by omega)]
theorem wr_list {α : Type} {o : Nat} {M : List α} {X : Array α} (hz : o + M.length ≤ X.size) : (M.zipIdx.foldl (fun a (q : α × Nat) => a.setIfInBounds (o + q.2) q.1) X).toList = X.toList.take o ++ (M ++ X.toList.drop (o + M.length)) := by
  refine List.ext_getElem? fun t => ?_
  have := wr_get o M 0 X (by omega) t
  rw [Array.getElem?_toList, this]
  simp only [Nat.add_zero]
  have hl : (X.toList.take o).length = o := by rw [List.length_take]; simp; omega
  by_cases h1 : t < o
  · rw [if_neg (by omega), List.getElem?_append_left (by omega), List.getElem?_take_of_lt h1, Array.getElem?_toList]
  · rw [List.getElem?_append_right (by omega), hl]
    by_cases h2 : t < o + M.length
    · rw [if_pos (by omega), List.getElem?_append_left (by omega)]
    · rw [if_neg (by omega), List.getElem?_append_right (by omega), List.getElem?_drop, ← Array.getElem?_toList]
      congr 1
      omega
theorem K_wr {o : Nat} {M : List Keyed} {X : Array Keyed} (hz : o + M.length ≤ X.size) (t : Nat) : (t < o ∨ o + M.length ≤ t → K (M.zipIdx.foldl (fun a (q : Keyed × Nat) => a.setIfInBounds (o + q.2) q.1) X) t = K X t) ∧
    ∀ (h1 : o ≤ t) (h2 : t < o + M.length), K (M.zipIdx.foldl (fun a (q : Keyed × Nat) => a.setIfInBounds (o + q.2) q.1) X) t = num (M[t - o]'(by omega)) := by
  have := wr_get o M 0 X (by omega) t
  simp only [Nat.add_zero] at this
  refine ⟨fun h => ?_, fun h1 h2 => ?_⟩
  · rw [if_neg (by omega)] at this
    exact K_congr this
  · rw [if_pos ⟨h1, h2⟩, List.getElem?_eq_getElem (by omega)] at this
    unfold K num
    rw [this]
theorem keys_perm {X a₀ : Array Keyed} (h0 : IntKeys a₀) (hp : X.Perm a₀) : IntKeys X := fun q hq => h0 q ((Array.perm_iff_toList_perm.mp hp).mem_iff.mp hq)
theorem keys_ext {X : Array Keyed} (h : IntKeys X) (i j : Nat) : IntKeys (X.extract i j) := fun q hq => by
  rw [ext_mid] at hq
  exact h q (List.mem_of_mem_take (List.mem_of_mem_drop hq))
theorem srt_ext {X : Array Keyed} {i j : Nat} (hj : j ≤ X.size) (h : Seg (K X) i j) : Srt (X.extract i j).toList := by
  refine List.pairwise_iff_getElem.mpr ?_
  intro x y hx hy hxy
  have hsz : (X.extract i j).toList.length = j - i := by simp; omega
  have e : ∀ z (hz : z < (X.extract i j).toList.length), num (X.extract i j).toList[z] = K X (i + z) := fun z hz => by
    have hz' : i + z < X.size := by omega
    rw [← num_at hz']
    simp
  rw [e x hx, e y hy]
  exact h _ _ (by omega) (by omega) (by omega)
theorem mAt_eq (i : Nat) : mergeAt' i = (do
    let st ← get
    let (some (sa, na, pw), some (sb, nb, _)) := ((pendingOf st)[i]?, (pendingOf st)[i + 1]?) | unsupported "internal:list.sort.pending"
    set (setPending st (((pendingOf st).setIfInBounds i (sa, na + nb, pw)).eraseIdxIfInBounds (i + 1)))
    let some k ← gal false (← elem' (arrOf st) sb) (arrOf st) sa na 0 | return false
    let (sa, na) := (sa + k, na - k)
    if na == 0 then return true
    let some nb ← gal true (← elem' (arrOf st) (sa + na - 1)) (arrOf st) sb nb (nb - 1) | return false
    if nb == 0 then return true
    let M ← if na ≤ nb then mLo ((arrOf st).extract sa sb) ((arrOf st).extract sb (sb + nb)) else mHi ((arrOf st).extract sa sb) ((arrOf st).extract sb (sb + nb))
    modify fun st => setArr st (M.toList.zipIdx.foldl (fun a (q, j) => a.setIfInBounds (sa + j) q) (arrOf st))
    return (failedOf (← get)).isNone) := by rfl
section
variable {prog : Program} {w : World} {A : Around} {E : Value → Shared → Prop} {s : Shared} {a₀ : Array Keyed} {p : Array (Nat × Nat × Nat)}
theorem wpS_set {σ : Type} {M : Model} {x st : σ} {Q : PUnit → σ → Prop} (h : Q ⟨⟩ x) : wpS M A E s (set x : StateT σ Sem PUnit) Q st := by
  unfold wpS
  rw [StateT.run_set]
  exact wpAny_pure ⟨rfl, h⟩
theorem wp_mAt {st : SortSt} {Q : Bool → SortSt → Prop} (h0 : IntKeys a₀) (hB : TB a₀ p st) {i sa na pw sb nb pw' : Nat} (e1 : p[i]? = some (sa, na, pw)) (e2 : p[i + 1]? = some (sb, nb, pw')) (hsb : sb = sa + na) (hna : 1 ≤ na) (hnb : 1 ≤ nb) (hsz : sb + nb ≤ a₀.size)
    (s1 : Seg (K (arrOf st)) sa (sa + na)) (s2 : Seg (K (arrOf st)) sb (sb + nb))
    (h : ∀ st', TB a₀ ((p.setIfInBounds i (sa, na + nb, pw)).eraseIdxIfInBounds (i + 1)) st' → Seg (K (arrOf st')) sa (sa + (na + nb)) → (∀ t, t < sa ∨ sa + (na + nb) ≤ t → K (arrOf st') t = K (arrOf st) t) → Q true st') :
    wpS (model prog w) A E s (mergeAt' i) Q st := by
  have kX := keys_perm h0 hB.perm
  have zX := hB.size
  rw [mAt_eq]
  refine wpS_bind (wpS_get ?_)
  rw [hB.pend, e1, e2]
  dsimp only
  refine wpS_bind (wpS_set ?_)
  refine wpS_bind (wp_el (by omega) ?_)
  have hB1 : TB a₀ ((p.setIfInBounds i (sa, na + nb, pw)).eraseIdxIfInBounds (i + 1)) (setPending st ((p.setIfInBounds i (sa, na + nb, pw)).eraseIdxIfInBounds (i + 1))) := ⟨hB.perm, hB.kind, hB.failed, rfl⟩
  generalize (p.setIfInBounds i (sa, na + nb, pw)).eraseIdxIfInBounds (i + 1) = p' at hB1 h
  refine wpS_bind (wp_gal hB1.kind kX (isI_at kX _) (by omega) (by omega) s1 fun k k1 k2 k3 => ?_)
  dsimp only
  rw [num_at (by omega)] at k2 k3
  have seg3 : ∀ (f : Nat → Int) (u v : Nat), sa ≤ u → u ≤ v → v ≤ sb + nb → Seg f sa u → Seg f u v → Seg f v (sb + nb) → (∀ x y, sa ≤ x → x < u → u ≤ y → y < v → f x ≤ f y) → (∀ x y, u ≤ x → x < v → v ≤ y → y < sb + nb → f x ≤ f y) → (∀ x y, sa ≤ x → x < u → v ≤ y → y < sb + nb → f x ≤ f y) → Seg f sa (sb + nb) := by
    intro f u v c1 c2 c3 g1 g2 g3 g4 g5 g6 x y hx hxy hy
    by_cases a1 : y < u
    · exact g1 x y hx hxy a1
    · by_cases a2 : y < v
      · by_cases a3 : x < u
        · exact g4 x y hx a3 (by omega) a2
        · exact g2 x y (by omega) hxy a2
      · by_cases a3 : x < u
        · exact g6 x y hx a3 (by omega) hy
        · by_cases a4 : x < v
          · exact g5 x y (by omega) a4 (by omega) hy
          · exact g3 x y (by omega) hxy hy
  have flat : (∀ x, sa ≤ x → x < sb → K (arrOf st) x ≤ K (arrOf st) sb) → Seg (K (arrOf st)) sa (sa + (na + nb)) := fun hx => by
    rw [show sa + (na + nb) = sb + nb by omega]
    exact seg3 _ sb sb (by omega) (by omega) (by omega) (by rw [hsb]; exact s1) (fun x y a1 a2 a3 => by omega) s2 (fun x y a1 a2 a3 a4 => by omega) (fun x y a1 a2 a3 a4 => by omega) fun x y a1 a2 a3 a4 => Int.le_trans (hx x a1 a2) (s2 sb y (by omega) a3 a4)
  by_cases z : (na - k == 0) = true
  · rw [if_pos z]
    have z' : na - k = 0 := by simpa using z
    refine wpS_pure (h _ hB1 (flat fun x a1 a2 => ?_) fun _ _ => rfl)
    have := k2 (x - sa) (by omega)
    rw [show sa + (x - sa) = x by omega] at this
    exact this
  · rw [if_neg z]
    have z' : ¬ na - k = 0 := by simpa using z
    refine wpS_bind (wp_el (by omega) ?_)
    refine wpS_bind (wp_gal hB1.kind kX (isI_at kX _) (by omega) (by omega) s2 fun m m1 m2 m3 => ?_)
    dsimp only
    rw [num_at (by omega)] at m2 m3
    rw [show sa + k + (na - k) - 1 = sb - 1 by omega] at m2 m3
    by_cases y : (m == 0) = true
    · rw [if_pos y]
      have y' : m = 0 := by simpa using y
      refine wpS_pure (h _ hB1 (flat fun x a1 a2 => ?_) fun _ _ => rfl)
      have := m3 0 (by omega) (by omega)
      exact Int.le_trans (s1 x (sb - 1) a1 (by omega) (by omega)) (Int.not_lt.mp this)
    · rw [if_neg y]
      have y' : ¬ m = 0 := by simpa using y
      have zx : ((arrOf st).extract (sa + k) sb).size = na - k := by rw [Array.size_extract]; omega
      have zy : ((arrOf st).extract sb (sb + m)).size = m := by rw [Array.size_extract]; omega
      have sx : Srt ((arrOf st).extract (sa + k) sb).toList := srt_ext (by omega) fun x y a1 a2 a3 => s1 x y (by omega) a2 (by omega)
      have sy : Srt ((arrOf st).extract sb (sb + m)).toList := srt_ext (by omega) fun x y a1 a2 a3 => s2 x y (by omega) a2 (by omega)
      have inx : ∀ q ∈ ((arrOf st).extract (sa + k) sb).toList, ∃ t, sa + k ≤ t ∧ t < sb ∧ num q = K (arrOf st) t := fun q hq => by
        rw [ext_mid] at hq
        obtain ⟨t, ht, t1, t2, rfl⟩ := mem_midH hq
        exact ⟨t, t1, t2, num_at ht⟩
      have iny : ∀ q ∈ ((arrOf st).extract sb (sb + m)).toList, ∃ t, sb ≤ t ∧ t < sb + m ∧ num q = K (arrOf st) t := fun q hq => by
        rw [ext_mid] at hq
        obtain ⟨t, ht, t1, t2, rfl⟩ := mem_midH hq
        exact ⟨t, t1, t2, num_at ht⟩
      have bx : ∀ q ∈ ((arrOf st).extract (sa + k) sb).toList, K (arrOf st) sb ≤ num q ∧ num q ≤ K (arrOf st) (sb - 1) := fun q hq => by
        obtain ⟨t, t1, t2, e⟩ := inx q hq
        rw [e]
        refine ⟨?_, s1 t (sb - 1) (by omega) (by omega) (by omega)⟩
        have := k3 (t - sa) (by omega) (by omega)
        rw [show sa + (t - sa) = t by omega] at this
        exact Int.le_of_lt (Int.not_le.mp this)
      have by' : ∀ q ∈ ((arrOf st).extract sb (sb + m)).toList, K (arrOf st) sb ≤ num q ∧ num q ≤ K (arrOf st) (sb - 1) := fun q hq => by
        obtain ⟨t, t1, t2, e⟩ := iny q hq
        rw [e]
        refine ⟨s2 sb t (by omega) t1 (by omega), ?_⟩
        have := m2 (t - sb) (by omega)
        rw [show sb + (t - sb) = t by omega] at this
        exact Int.le_of_lt this
      have fy : num (((arrOf st).extract sb (sb + m))[0]'(by omega)) = K (arrOf st) sb := by
        rw [num_at, K_congr (ys := arrOf st) (j := sb)]
        rw [Array.getElem?_extract]
        simp
        omega
      have lx : num (((arrOf st).extract (sa + k) sb)[((arrOf st).extract (sa + k) sb).size - 1]'(by omega)) = K (arrOf st) (sb - 1) := by
        rw [num_at, K_congr (ys := arrOf st) (j := sb - 1)]
        rw [Array.getElem?_extract, zx, if_pos (by omega)]
        congr 1
        omega
      have fin : ∀ (M : Array Keyed) (g : Nat), Mok ((arrOf st).extract (sa + k) sb) ((arrOf st).extract sb (sb + m)) M →
          wpS (model prog w) A E s (do
            modify fun st => setArr st (M.toList.zipIdx.foldl (fun a (q : Keyed × Nat) => a.setIfInBounds (sa + k + q.2) q.1) (arrOf st))
            let c ← get
            pure (failedOf c).isNone) Q (sg (setPending st p') g) := by
        rintro M g ⟨pM, sM⟩
        have lM : M.toList.length = na - k + m := by
          rw [pM.length_eq, List.length_append, Array.length_toList, Array.length_toList, zx, zy]
        have hz : sa + k + M.toList.length ≤ (arrOf st).size := by omega
        have wl := wr_list hz
        refine wpS_bind (wpS_modify (wpS_bind (wpS_get (wpS_pure ?_))))
        show Q (failedOf st).isNone _
        rw [hB.failed]
        have kw := fun t => K_wr hz t
        have bM : ∀ q ∈ M.toList, K (arrOf st) sb ≤ num q ∧ num q ≤ K (arrOf st) (sb - 1) := fun q hq => by
          rcases List.mem_append.mp (pM.mem_iff.mp hq) with z | z
          · exact bx q z
          · exact by' q z
        refine h _ ⟨?_, hB.kind, hB.failed, rfl⟩ ?_ fun t ht => (kw t).1 (by omega)
        · refine Array.Perm.trans ?_ hB.perm
          refine Array.perm_iff_toList_perm.mpr ?_
          show (M.toList.zipIdx.foldl (fun a (q : Keyed × Nat) => a.setIfInBounds (sa + k + q.2) q.1) (arrOf st)).toList.Perm (arrOf st).toList
          rw [wl, lM]
          have e : (arrOf st).toList = (arrOf st).toList.take (sa + k) ++ ((((arrOf st).extract (sa + k) sb).toList ++ ((arrOf st).extract sb (sb + m)).toList) ++ (arrOf st).toList.drop (sa + k + (na - k + m))) := by
            rw [ext_mid, ext_mid, ← List.append_assoc, ← List.append_assoc, ← cutB _ (show sa + k ≤ sb by omega), ← cutB _ (show sb ≤ sb + m by omega), show sa + k + (na - k + m) = sb + m by omega, List.take_append_drop]
          conv => rhs; rw [e]
          exact List.Perm.append_left _ (List.Perm.append_right _ pM)
        · show Seg (K (M.toList.zipIdx.foldl (fun a (q : Keyed × Nat) => a.setIfInBounds (sa + k + q.2) q.1) (arrOf st))) sa (sa + (na + nb))
          generalize hf : K (M.toList.zipIdx.foldl (fun a (q : Keyed × Nat) => a.setIfInBounds (sa + k + q.2) q.1) (arrOf st)) = f at kw
          have out : ∀ t, t < sa + k ∨ sb + m ≤ t → f t = K (arrOf st) t := fun t ht => (kw t).1 (by omega)
          have ins : ∀ t, sa + k ≤ t → t < sb + m → K (arrOf st) sb ≤ f t ∧ f t ≤ K (arrOf st) (sb - 1) := fun t t1 t2 => by
            rw [(kw t).2 t1 (by omega)]
            exact bM _ (List.getElem_mem _)
          rw [show sa + (na + nb) = sb + nb by omega]
          have kA : ∀ x, sa ≤ x → x < sa + k → K (arrOf st) x ≤ K (arrOf st) sb := fun x a1 a2 => by
            have := k2 (x - sa) (by omega)
            rw [show sa + (x - sa) = x by omega] at this
            exact this
          have mB : ∀ y, sb + m ≤ y → y < sb + nb → K (arrOf st) (sb - 1) ≤ K (arrOf st) y := fun y a1 a2 => by
            have := m3 (y - sb) (by omega) (by omega)
            rw [show sb + (y - sb) = y by omega] at this
            exact Int.not_lt.mp this
          refine seg3 f (sa + k) (sb + m) (by omega) (by omega) (by omega) (fun x y a1 a2 a3 => ?_) (fun x y a1 a2 a3 => ?_) (fun x y a1 a2 a3 => ?_) (fun x y a1 a2 a3 a4 => ?_) (fun x y a1 a2 a3 a4 => ?_) (fun x y a1 a2 a3 a4 => ?_)
          · rw [out x (by omega), out y (by omega)]
            exact s1 x y a1 a2 (by omega)
          · rw [(kw x).2 a1 (by omega), (kw y).2 (by omega) (by omega)]
            by_cases exy : x = y
            · subst exy; exact Int.le_refl _
            · exact List.pairwise_iff_getElem.mp sM _ _ _ _ (by omega)
          · rw [out x (by omega), out y (by omega)]
            exact s2 x y (by omega) a2 a3
          · rw [out x (by omega)]
            exact Int.le_trans (kA x a1 a2) (ins y a3 a4).1
          · rw [out y (by omega)]
            exact Int.le_trans (ins x a1 a2).2 (mB y a3 a4)
          · rw [out x (by omega), out y (by omega)]
            exact Int.le_trans (kA x a1 a2) (s2 sb y (by omega) (by omega) a4)
      by_cases v : na - k ≤ m
      · rw [if_pos v]
        exact wpS_bind (wp_mLo (st := setPending st p') hB1.kind (keys_ext kX _ _) (keys_ext kX _ _) sx sy (by omega) (by omega) (fun q hq => by rw [fy]; exact (bx q hq).1) (fun q hq => by rw [lx]; exact (by' q hq).2) fin)
      · rw [if_neg v]
        exact wpS_bind (wp_mHi (st := setPending st p') hB1.kind (keys_ext kX _ _) (keys_ext kX _ _) sx sy (by omega) (by omega) (fun q hq => by rw [fy]; exact (bx q hq).1) (fun q hq => by rw [lx]; exact (by' q hq).2) fin)
end
end Tim
set_option Elab.async false
set_option linter.all false
set_option maxRecDepth 100000
namespace Tim
open PySem PyProof.Rows
def Runs (f : Nat → Int) : Nat → List (Nat × Nat × Nat) → Nat → Prop
  | s, [], e => s = e
  | s, r :: l, e => r.1 = s ∧ 1 ≤ r.2.1 ∧ Seg f s (s + r.2.1) ∧ Runs f (s + r.2.1) l e
theorem Runs.app {f : Nat → Int} : ∀ {l1 l2 : List (Nat × Nat × Nat)} {s e : Nat}, Runs f s (l1 ++ l2) e ↔ ∃ m, Runs f s l1 m ∧ Runs f m l2 e
  | [], l2, s, e => ⟨fun h => ⟨s, rfl, h⟩, fun ⟨m, h1, h2⟩ => by cases h1; exact h2⟩
  | r :: l1, l2, s, e => ⟨fun ⟨a1, a2, a3, h⟩ => by
      obtain ⟨m, h1, h2⟩ := Runs.app.mp h
      exact ⟨m, ⟨a1, a2, a3, h1⟩, h2⟩, fun ⟨m, ⟨a1, a2, a3, h1⟩, h2⟩ => ⟨a1, a2, a3, Runs.app.mpr ⟨m, h1, h2⟩⟩⟩
theorem Runs.len {f : Nat → Int} : ∀ {l : List (Nat × Nat × Nat)} {s e : Nat}, Runs f s l e → s + l.length ≤ e
  | [], s, e, h => by cases h; simp
  | r :: l, s, e, ⟨_, a2, _, h⟩ => by
    have := Runs.len h
    rw [List.length_cons]
    omega
theorem Runs.congr {f g : Nat → Int} : ∀ {l : List (Nat × Nat × Nat)} {s e : Nat}, (∀ t, s ≤ t → t < e → g t = f t) → Runs f s l e → Runs g s l e
  | [], s, e, _, h => h
  | r :: l, s, e, hg, ⟨a1, a2, a3, h⟩ => by
    have hl := Runs.len h
    refine ⟨a1, a2, fun x y hx hxy hy => ?_, Runs.congr (fun t h1 h2 => hg t (by omega) h2) h⟩
    rw [hg x hx (by omega), hg y (by omega) (by omega)]
    exact a3 x y hx hxy hy
theorem Runs.pow {f : Nat → Int} (c : Nat) : ∀ {l : List (Nat × Nat × Nat)} {s e : Nat} (j : Nat), Runs f s l e → Runs f s (l.modify j fun r => (r.1, r.2.1, c)) e
  | [], s, e, j, h => by
    have : ([] : List (Nat × Nat × Nat)).modify j (fun r => (r.1, r.2.1, c)) = [] := by cases j <;> rfl
    rw [this]; exact h
  | r :: l, s, e, 0, h => h
  | r :: l, s, e, j + 1, ⟨a1, a2, a3, h⟩ => ⟨a1, a2, a3, Runs.pow c j h⟩
theorem Runs.join {f g : Nat → Int} {l : List (Nat × Nat × Nat)} {s e i : Nat} {x y : Nat × Nat × Nat} (h : Runs f s l e) (e1 : l[i]? = some x) (e2 : l[i + 1]? = some y) :
    y.1 = x.1 + x.2.1 ∧ 1 ≤ x.2.1 ∧ 1 ≤ y.2.1 ∧ y.1 + y.2.1 ≤ e ∧ s ≤ x.1 ∧ Seg f x.1 (x.1 + x.2.1) ∧ Seg f y.1 (y.1 + y.2.1) ∧
      (Seg g x.1 (x.1 + (x.2.1 + y.2.1)) → (∀ t, t < x.1 ∨ x.1 + (x.2.1 + y.2.1) ≤ t → g t = f t) → Runs g s ((l.set i (x.1, x.2.1 + y.2.1, x.2.2)).eraseIdx (i + 1)) e) := by
  induction l generalizing s i with
  | nil => cases e1
  | cons r l ih =>
    obtain ⟨a1, a2, a3, h'⟩ := h
    cases i with
    | zero =>
      have er : r = x := by simpa using e1
      subst er
      cases l with
      | nil => cases e2
      | cons r2 l =>
        have er2 : r2 = y := by simpa using e2
        subst er2
        obtain ⟨b1, b2, b3, h2⟩ := h'
        have hl := Runs.len h2
        rw [← a1] at b1
        refine ⟨b1, a2, b2, by omega, by omega, by rw [a1]; exact a3, by rw [b1, a1]; exact b3, fun hs hg => ?_⟩
        show Runs g s ((r.1, r.2.1 + r2.2.1, r.2.2) :: l) e
        refine ⟨a1, by show 1 ≤ r.2.1 + r2.2.1; omega, by rw [a1] at hs; exact hs, ?_⟩
        show Runs g (s + (r.2.1 + r2.2.1)) l e
        refine Runs.congr (fun t h1 h2 => hg t (by omega)) ?_
        rw [show s + (r.2.1 + r2.2.1) = s + r.2.1 + r2.2.1 by omega]
        exact h2
    | succ i =>
      obtain ⟨c1, c2, c3, c4, c5, c6, c7, c8⟩ := ih (i := i) h' (by simpa using e1) (by simpa using e2)
      refine ⟨c1, c2, c3, c4, by omega, c6, c7, fun hs hg => ?_⟩
      show Runs g s (r :: ((l.set i (x.1, x.2.1 + y.2.1, x.2.2)).eraseIdx (i + 1))) e
      refine ⟨a1, a2, fun u v hu huv hv => ?_, c8 hs hg⟩
      rw [hg u (by omega), hg v (by omega)]
      exact a3 u v hu huv hv
section
variable {prog : Program} {w : World} {A : Around} {E : Value → Shared → Prop} {s : Shared} {a₀ : Array Keyed} {p : Array (Nat × Nat × Nat)}
theorem wp_mAtR {st : SortSt} {Q : Bool → SortSt → Prop} (h0 : IntKeys a₀) (hB : TB a₀ p st) {e i : Nat} (he : e ≤ a₀.size) (R : Runs (K (arrOf st)) 0 p.toList e) (hi : i + 1 < p.size)
    (h : ∀ p' st', TB a₀ p' st' → Runs (K (arrOf st')) 0 p'.toList e → p'.size + 1 = p.size → (∀ t, e ≤ t → K (arrOf st') t = K (arrOf st) t) → Q true st') : wpS (model prog w) A E s (mergeAt' i) Q st := by
  have g1 : p[i]? = some p[i] := getElem?_pos p i (by omega)
  have g2 : p[i + 1]? = some p[i + 1] := getElem?_pos p (i + 1) hi
  generalize p[i] = x at g1
  generalize p[i + 1] = y at g2
  obtain ⟨sa, na, pw⟩ := x
  obtain ⟨sb, nb, pw'⟩ := y
  have J := fun g => R.join (g := g) (i := i) (by rw [Array.getElem?_toList]; exact g1) (by rw [Array.getElem?_toList]; exact g2)
  obtain ⟨c1, c2, c3, c4, c5, c6, c7, _⟩ := J (K (arrOf st))
  dsimp only at c1 c2 c3 c4 c5 c6 c7
  refine wp_mAt h0 hB g1 g2 c1 c2 c3 (by omega) c6 c7 fun st' b1 b2 b3 => h _ st' b1 ?_ ?_ fun t ht => b3 t (by omega)
  · have := (J (K (arrOf st'))).2.2.2.2.2.2.2 b2 b3
    rw [Array.toList_eraseIdxIfInBounds, Array.toList_setIfInBounds]
    exact this
  · rw [← Array.length_toList (xs := (Array.eraseIdxIfInBounds _ _)), Array.toList_eraseIdxIfInBounds, List.length_eraseIdx, Array.length_toList, Array.size_setIfInBounds, if_pos hi]
    omega
theorem wp_runs {st : SortSt} {Q : Unit → SortSt → Prop} (h0 : IntKeys a₀) (hB : TB a₀ #[] st) (h2 : 2 ≤ a₀.size)
    (h : ∀ st', (arrOf st').Perm a₀ → failedOf st' = none → SortedTo (arrOf st') a₀.size → Q () st') : wpS (model prog w) A E s sortRuns' Q st := by
  rw [sortRuns'_eq]
  refine wpS_bind (wpS_get ?_)
  dsimp only
  simp only [hB.size]
  generalize minRun' a₀.size a₀.size 0 = mr
  refine wpS_bind (wpS_mono (wpS_forRange
    (I := fun x c st' => ∃ lo p, c = (none, lo) ∧ lo ≤ a₀.size ∧ x ≤ lo ∧ TB a₀ p st' ∧ Runs (K (arrOf st')) 0 p.toList lo)
    (Q := fun c st' => ∃ p, c = (none, a₀.size) ∧ TB a₀ p st' ∧ Runs (K (arrOf st')) 0 p.toList a₀.size) ?step ?fin ⟨0, #[], rfl, by omega, by omega, hB, rfl⟩) ?post)
  case fin =>
    rintro c st' ⟨lo, p, rfl, h1, h3, hB', R⟩
    have : lo = a₀.size := by omega
    subst this
    exact ⟨p, rfl, hB', R⟩
  case step =>
    rintro x c st' _ hx ⟨lo, p, rfl, h1, h3, hB', R⟩
    dsimp only
    by_cases z : lo ≥ a₀.size
    · rw [if_pos z]
      have : lo = a₀.size := by omega
      subst this
      exact wpS_pure ⟨p, rfl, hB', R⟩
    · rw [if_neg z]
      refine wpS_bind (wp_count h0 (by omega) (by omega) hB' fun m st2 hB2 m1 m2 s2 k2 => ?_)
      dsimp only
      have R2 : Runs (K (arrOf st2)) 0 p.toList lo := R.congr fun t _ ht => k2 t ht
      by_cases y : m < mr
      · rw [if_pos y]
        refine wpS_bind (wpS_lift (wpAny_rule ⟨rfl, ?_⟩))
        refine wpS_bind (wp_bin h0 (by omega) (by omega) hB2 s2 fun st3 hB3 s3 k3 => ?_)
        simp only [Bool.not_true, Bool.false_eq_true, if_false]
        obtain ⟨n, n1, n2, sn, en⟩ : ∃ n, 1 ≤ n ∧ lo + n ≤ a₀.size ∧ Seg (K (arrOf st3)) lo (lo + n) ∧ min (a₀.size - lo) mr = n := ⟨_, by omega, by omega, s3, rfl⟩
        rw [en]
        have b3 := hB3
        have R3 := R2.congr fun t _ ht => k3 t ht
        refine wpS_bind (wpS_get ?_)
        have last : ∀ (p' : Array (Nat × Nat × Nat)) (st4 : SortSt), TB a₀ p' st4 → Seg (K (arrOf st4)) lo (lo + n) → Runs (K (arrOf st4)) 0 p'.toList lo → TB a₀ (p'.push (lo, n, 0)) (setPending st4 ((pendingOf st4).push (lo, n, 0))) ∧ Runs (K (arrOf st4)) 0 (p'.push (lo, n, 0)).toList (lo + n) := by
          intro p' st4 b4 s4 r4
          refine ⟨⟨b4.perm, b4.kind, b4.failed, by rw [b4.pend]⟩, ?_⟩
          rw [Array.toList_push]
          exact Runs.app.mpr ⟨lo, r4, rfl, n1, s4, rfl⟩
        cases hb : (pendingOf st3).back? with
        | none =>
          dsimp only
          obtain ⟨l1, l2⟩ := last p st3 b3 sn R3
          exact wpS_bind (wpS_modify (wpS_pure ⟨_, _, rfl, n2, by omega, l1, l2⟩))
        | some v =>
          obtain ⟨s1, q1, w1⟩ := v
          dsimp only
          generalize power' a₀.size (2 * s1 + q1) (2 * s1 + q1 + q1 + n) a₀.size = pw
          refine wpS_bind (wpS_mono (wpS_forRange (I := fun _ c st' => c = (none, ()) ∧ ∃ p', TB a₀ p' st' ∧ Seg (K (arrOf st')) lo (lo + n) ∧ Runs (K (arrOf st')) 0 p'.toList lo)
            (Q := fun c st' => c = (none, ()) ∧ ∃ p', TB a₀ p' st' ∧ Seg (K (arrOf st')) lo (lo + n) ∧ Runs (K (arrOf st')) 0 p'.toList lo) ?istep (fun _ _ h => h) ⟨rfl, p, b3, sn, R3⟩) ?ipost)
          case ipost =>
            rintro c st4 ⟨rfl, p', b4, s4, r4⟩
            dsimp only
            refine wpS_bind (wpS_modify ?_)
            have b5 : TB a₀ (p'.modify (p'.size - 1) fun r => (r.1, r.2.1, pw)) (setPending st4 ((pendingOf st4).modify ((pendingOf st4).size - 1) fun r => (r.1, r.2.1, pw))) := ⟨b4.perm, b4.kind, b4.failed, by rw [b4.pend]⟩
            have r5 : Runs (K (arrOf st4)) 0 (p'.modify (p'.size - 1) fun r => (r.1, r.2.1, pw)).toList lo := by
              rw [Array.toList_modify]
              exact r4.pow pw _
            obtain ⟨l1, l2⟩ := last _ _ b5 s4 r5
            exact wpS_bind (wpS_modify (wpS_pure ⟨_, _, rfl, n2, by omega, l1, l2⟩))
          case istep =>
            rintro y c st4 _ _ ⟨rfl, p', b4, s4, r4⟩
            refine wpS_bind (wpS_get ?_)
            by_cases z : (pendingOf st4).size > 1
            · rw [if_pos z]
              cases ho : (pendingOf st4)[(pendingOf st4).size - 2]? with
              | none =>
                dsimp only
                exact wpS_pure ⟨rfl, p', b4, s4, r4⟩
              | some v =>
                obtain ⟨o1, o2, older⟩ := v
                dsimp only
                by_cases u : older ≤ pw
                · rw [if_pos u]
                  exact wpS_pure ⟨rfl, p', b4, s4, r4⟩
                · rw [if_neg u]
                  have hz : p'.size > 1 := by rw [← b4.pend]; exact z
                  refine wpS_bind (wp_mAtR h0 b4 (Nat.le_of_lt (by omega)) r4 (by rw [b4.pend]; omega) fun p2 st5 b5 r5 _ k5 => ?_)
                  simp only [Bool.not_true, Bool.false_eq_true, if_false]
                  refine wpS_pure ⟨rfl, p2, b5, fun i j hi hij hj => ?_, r5⟩
                  rw [k5 i hi, k5 j (by omega)]
                  exact s4 i j hi hij hj
            · rw [if_neg z]
              dsimp only
              exact wpS_pure ⟨rfl, p', b4, s4, r4⟩
      · rw [if_neg y]
        obtain ⟨n, n1, n2, sn, en⟩ : ∃ n, 1 ≤ n ∧ lo + n ≤ a₀.size ∧ Seg (K (arrOf st2)) lo (lo + n) ∧ m = n := ⟨_, m1, by omega, s2, rfl⟩
        rw [en]
        have b3 := hB2
        have R3 := R2
        refine wpS_bind (wpS_get ?_)
        have last : ∀ (p' : Array (Nat × Nat × Nat)) (st4 : SortSt), TB a₀ p' st4 → Seg (K (arrOf st4)) lo (lo + n) → Runs (K (arrOf st4)) 0 p'.toList lo → TB a₀ (p'.push (lo, n, 0)) (setPending st4 ((pendingOf st4).push (lo, n, 0))) ∧ Runs (K (arrOf st4)) 0 (p'.push (lo, n, 0)).toList (lo + n) := by
          intro p' st4 b4 s4 r4
          refine ⟨⟨b4.perm, b4.kind, b4.failed, by rw [b4.pend]⟩, ?_⟩
          rw [Array.toList_push]
          exact Runs.app.mpr ⟨lo, r4, rfl, n1, s4, rfl⟩
        cases hb : (pendingOf st2).back? with
        | none =>
          dsimp only
          obtain ⟨l1, l2⟩ := last p st2 b3 sn R3
          exact wpS_bind (wpS_modify (wpS_pure ⟨_, _, rfl, n2, by omega, l1, l2⟩))
        | some v =>
          obtain ⟨s1, q1, w1⟩ := v
          dsimp only
          generalize power' a₀.size (2 * s1 + q1) (2 * s1 + q1 + q1 + n) a₀.size = pw
          refine wpS_bind (wpS_mono (wpS_forRange (I := fun _ c st' => c = (none, ()) ∧ ∃ p', TB a₀ p' st' ∧ Seg (K (arrOf st')) lo (lo + n) ∧ Runs (K (arrOf st')) 0 p'.toList lo)
            (Q := fun c st' => c = (none, ()) ∧ ∃ p', TB a₀ p' st' ∧ Seg (K (arrOf st')) lo (lo + n) ∧ Runs (K (arrOf st')) 0 p'.toList lo) ?istep2 (fun _ _ h => h) ⟨rfl, p, b3, sn, R3⟩) ?ipost2)
          case ipost2 =>
            rintro c st4 ⟨rfl, p', b4, s4, r4⟩
            dsimp only
            refine wpS_bind (wpS_modify ?_)
            have b5 : TB a₀ (p'.modify (p'.size - 1) fun r => (r.1, r.2.1, pw)) (setPending st4 ((pendingOf st4).modify ((pendingOf st4).size - 1) fun r => (r.1, r.2.1, pw))) := ⟨b4.perm, b4.kind, b4.failed, by rw [b4.pend]⟩
            have r5 : Runs (K (arrOf st4)) 0 (p'.modify (p'.size - 1) fun r => (r.1, r.2.1, pw)).toList lo := by
              rw [Array.toList_modify]
              exact r4.pow pw _
            obtain ⟨l1, l2⟩ := last _ _ b5 s4 r5
            exact wpS_bind (wpS_modify (wpS_pure ⟨_, _, rfl, n2, by omega, l1, l2⟩))
          case istep2 =>
            rintro y c st4 _ _ ⟨rfl, p', b4, s4, r4⟩
            refine wpS_bind (wpS_get ?_)
            by_cases z : (pendingOf st4).size > 1
            · rw [if_pos z]
              cases ho : (pendingOf st4)[(pendingOf st4).size - 2]? with
              | none =>
                dsimp only
                exact wpS_pure ⟨rfl, p', b4, s4, r4⟩
              | some v =>
                obtain ⟨o1, o2, older⟩ := v
                dsimp only
                by_cases u : older ≤ pw
                · rw [if_pos u]
                  exact wpS_pure ⟨rfl, p', b4, s4, r4⟩
                · rw [if_neg u]
                  have hz : p'.size > 1 := by rw [← b4.pend]; exact z
                  refine wpS_bind (wp_mAtR h0 b4 (Nat.le_of_lt (by omega)) r4 (by rw [b4.pend]; omega) fun p2 st5 b5 r5 _ k5 => ?_)
                  simp only [Bool.not_true, Bool.false_eq_true, if_false]
                  refine wpS_pure ⟨rfl, p2, b5, fun i j hi hij hj => ?_, r5⟩
                  rw [k5 i hi, k5 j (by omega)]
                  exact s4 i j hi hij hj
            · rw [if_neg z]
              dsimp only
              exact wpS_pure ⟨rfl, p', b4, s4, r4⟩
  case post =>
    rintro c st' ⟨p, rfl, hB', R⟩
    dsimp only
    refine wpS_bind (wpS_mono (wpS_forRange (I := fun x c st' => c = (none, ()) ∧ ∃ p, TB a₀ p st' ∧ Runs (K (arrOf st')) 0 p.toList a₀.size ∧ (p.size ≤ 1 ∨ p.size + x ≤ a₀.size + 1))
      (Q := fun c st' => c = (none, ()) ∧ ∃ p, TB a₀ p st' ∧ Runs (K (arrOf st')) 0 p.toList a₀.size ∧ p.size ≤ 1) ?fstep ?ffin ?finit) ?fpost)
    case finit =>
      have := Runs.len R
      rw [Array.length_toList] at this
      exact ⟨rfl, p, hB', R, .inr (by omega)⟩
    case ffin =>
      rintro c st' ⟨rfl, p, b, r, hp⟩
      exact ⟨rfl, p, b, r, by omega⟩
    case fpost =>
      rintro c st' ⟨rfl, p, b, r, hp⟩
      refine wpS_pure (h st' b.perm b.failed ?_)
      obtain ⟨l⟩ := p
      match l, r, hp with
      | [], r, _ => have r' : 0 = a₀.size := r; omega
      | [v], r, _ =>
        obtain ⟨_, _, hs, e⟩ := r
        have e' : 0 + v.2.1 = a₀.size := e
        rw [e'] at hs
        exact fun i j hij hj => hs i j (by omega) hij hj
      | _ :: _ :: _, _, hp => simp at hp
    case fstep =>
      rintro x c st' _ hx ⟨rfl, p, b, r, hp⟩
      refine wpS_bind (wpS_get ?_)
      rw [b.pend]
      by_cases z : p.size ≤ 1
      · rw [if_pos z]
        exact wpS_pure ⟨rfl, p, b, r, z⟩
      · rw [if_neg z]
        have go : ∀ i, i + 1 < p.size → wpS (model prog w) A E s (do
            let ok ← mergeAt' i
            if (!ok) = true then pure (ForInStep.done (some (), ())) else pure (ForInStep.yield (none, ()))) (fun r st' => match r with
              | .done c => c = (none, ()) ∧ ∃ p, TB a₀ p st' ∧ Runs (K (arrOf st')) 0 p.toList a₀.size ∧ p.size ≤ 1
              | .yield c => c = (none, ()) ∧ ∃ p, TB a₀ p st' ∧ Runs (K (arrOf st')) 0 p.toList a₀.size ∧ (p.size ≤ 1 ∨ p.size + (x + 1) ≤ a₀.size + 1)) st' := by
          intro i hi
          refine wpS_bind (wp_mAtR h0 b (Nat.le_refl _) r hi fun p2 st5 b5 r5 z5 _ => ?_)
          simp only [Bool.not_true, Bool.false_eq_true, if_false]
          exact wpS_pure ⟨rfl, p2, b5, r5, by omega⟩
        refine wpS_mono (go _ ?_) fun r st2 h => by cases r <;> exact h
        repeat' split
        all_goals omega
end
end Tim
set_option Elab.async false
set_option linter.all false
set_option maxRecDepth 100000
namespace Tim
open PySem PyProof.Rows
section
variable {prog : Program} {w : World} {A : Around} {E : Value → Shared → Prop} {s : Shared}
theorem sort_any {a : Addr} {vs : List Value} {ns : List Int} {n : Nat} {P : Fin → Shared → Prop} (ho : s.heap.get? a = some (seqObj "list" vs.toArray n)) (hI : IntsAre vs ns) (hz : vs.length ≤ sizeLine)
    (q : ∀ (out : Array Value) (ns' : List Int), IntsAre out.toList ns' → ns'.Perm ns → ns'.Pairwise (· ≤ ·) → P (.done (.ret .none)) { s with heap := sortedHeap s.heap a vs out }) : wpAny (model prog w) A (Builtin.«list.sort» ⟨[.ref a], []⟩) P E s := by
  by_cases h64 : vs.length < 64
  · exact list_sort_tree ho hI h64 q
  rw [list_sort_plain]
  have la : a < s.heap.objs.size := Heap.lt_size ho
  refine wpAny_bind (listItems_at ho rfl (wpAny_bind (listUpdate_at ho rfl ?_ (by simpa using hz) (Nat.zero_le _))))
  obtain ⟨e1, o1⟩ : ∃ e1, (s.heap.update a (Obj.mapSeq fun _ => #[])).get? a = some (seqObj "list" #[] e1) := ⟨_, get?_update_seq ho (fun _ => #[])⟩
  refine wpAny_bind (seqEpoch_at o1 rfl (wpAny_bind (wpAny_newTuple ?_ (by simpa using hz))))
  refine wpAny_bind (wpAny_newList (wpAny_holding ?_))
  have o2 : (((s.heap.update a (Obj.mapSeq fun _ => #[])).push (seqObj "tuple" vs.toArray 0)).push (seqObj "list" #[] 0)).get? a = some (seqObj "list" #[] e1) := by
    rw [Heap.get?_push_ne _ _ _ (by rw [size_push', Heap.size_update]; exact Nat.ne_of_lt (Nat.lt_succ_of_lt la)), Heap.get?_push_ne _ _ _ (by rw [Heap.size_update]; exact Nat.ne_of_lt la)]
    exact o1
  show wpAny (model prog w) A _ P E { s with heap := ((s.heap.update a (Obj.mapSeq fun _ => #[])).push (seqObj "tuple" vs.toArray 0)).push (seqObj "list" #[] 0) }
  dsimp only
  have sz : vs.toArray.size = vs.length := by simp
  rw [if_neg (by omega), if_neg (by omega)]
  obtain ⟨v₁, v₂, rest, rfl⟩ : ∃ v₁ v₂ rest, vs = v₁ :: v₂ :: rest := by
    match vs, h64 with
    | [], h => simp at h
    | [_], h => simp at h
    | v₁ :: v₂ :: rest, _ => exact ⟨v₁, v₂, rest, rfl⟩
  rw [keyKind_ints hI]
  refine wpAny_bind (wpAny_pure ?_)
  refine wpAny_bind (wpAny_mono (wp_runs (a₀ := pairsOf (v₁ :: v₂ :: rest)) (st := SortSt.mk' oneType' ((v₁ :: v₂ :: rest).toArray.zip (v₁ :: v₂ :: rest).toArray) #[] 7 none)
    (Q := fun _ st' => (arrOf st').Perm (pairsOf (v₁ :: v₂ :: rest)) ∧ failedOf st' = none ∧ SortedTo (arrOf st') (pairsOf (v₁ :: v₂ :: rest)).size)
    hI.intKeys ⟨Array.Perm.refl _, rfl, rfl, rfl⟩ (by rw [pairsOf_size]; simp) fun st' a1 a2 a3 => ⟨a1, a2, a3⟩) ?_ fun _ _ e => e)
  rintro ⟨⟨⟩, st'⟩ s' ⟨rfl, hp, hf, hs⟩
  dsimp only
  refine wpAny_bind (seqEpoch_at o2 rfl (wpAny_bind (listUpdate_at o2 rfl ?_ (hsz2 := by refine Nat.le_trans (Nat.le_of_eq ((Array.size_map ..).trans (hp.size_eq.trans (pairsOf_size _)))) (Nat.le_succ_of_le hz)))))
  rw [hf]
  simp only [bne_self_eq_false, Bool.false_eq_true, if_false]
  obtain ⟨ns', g1, g2, g3⟩ := sorted_out hI hp hs
  exact wpAny_pure (q _ ns' g1 g2 g3)
theorem sorted_any {l : Addr} {vs : List Value} {ns : List Int} {Q : Value → Shared → Prop} (hl : s.heap.IsList l vs.toArray) (hI : IntsAre vs ns) (hz : vs.length ≤ sizeLine)
    (q : ∀ (out : Array Value) (ns' : List Int), IntsAre out.toList ns' → ns'.Perm ns → ns'.Pairwise (· ≤ ·) → Q (.ref (s.heap.objs.size + 1)) { s with heap := sortedAll s.heap vs out }) : wpAny (model prog w) A (call (.builtin "sorted") [.ref l]) Q E s := by
  refine Calls.call_function_entry kind_sorted plain_sorted entry_sorted (args_sorted1 _) ?_
  unfold Builtin.«sorted»
  refine wpAny_bind (m := checkCount "sorted" 1 1 _) (wpAny_pure (wpAny_bind (collect_list hl ?_ hz)))
  refine wpAny_bind (wpAny_newList ?_ (by simpa using hz))
  have z1 : ((s.heap.push (seqObj "list" #[] 0)).update s.heap.objs.size (Obj.mapSeq (· ++ vs.toArray))).objs.size = s.heap.objs.size + 1 := by
    rw [Heap.size_update, size_push']
  have o1 : (((s.heap.push (seqObj "list" #[] 0)).update s.heap.objs.size (Obj.mapSeq (· ++ vs.toArray))).push (seqObj "list" vs.toArray 0)).get? (s.heap.objs.size + 1) = some (seqObj "list" vs.toArray 0) := by
    rw [← z1]; exact Heap.get?_push_size _ rfl
  show wpAny _ _ _ _ _ { s with heap := ((s.heap.push (seqObj "list" #[] 0)).update s.heap.objs.size (Obj.mapSeq (· ++ vs.toArray))).push (seqObj "list" vs.toArray 0) }
  rw [z1]
  refine wpAny_bind (wpAny_holding (wpAny_call_entry slot_list_sort ⟨_, o1, rfl⟩ entry_list_sort (sort_any o1 hI hz fun out ns' a1 a2 a3 => ⟨_, rfl, ?_⟩) (args_list_sort _)))
  exact wpAny_pure ⟨_, rfl, q out ns' a1 a2 a3⟩
end
end Tim
set_option Elab.async false
set_option linter.all false
set_option maxRecDepth 100000
namespace L2
open PySem PySem.Spec PyProof.Rows
structure FnH (P : Program) (w : World) (K : PySem.W.Frag) (mg : Str → Option Value) (base : Heap) (k : Nat) (f : Addr) (fd : FuncData) (ps : List Str) (sp : Sp) : Prop where
  len : ∀ vs H Q E, sp vs H Q E → vs.length = ps.length
  run : ∀ (A : Around) (ev : Value) (outer : List Env) (s : Shared) (H : Hp) (args : Args) (us : List Value) (vs : List V) (Q : VK) (E : XK), Room k A → Env0 P w K mg base A outer s H → BindsTo s fd args (ps.zip us) → Vals vs us → sp vs H Q E →
    codeAny (model P w) (A.mark (some ev)) (.call (.ref f) args) (CR CX0 outer P w H s Q E) s
theorem FnH.mono {P : Program} {w : World} {K : PySem.W.Frag} {mg : Str → Option Value} {base : Heap} {j k : Nat} {f : Addr} {fd : FuncData} {ps : List Str} {sp : Sp} (F : FnH P w K mg base j f fd ps sp) (h : j ≤ k) :
    FnH P w K mg base k f fd ps sp := ⟨F.len, fun A ev outer s H args us vs Q E hr => F.run A ev outer s H args us vs Q E (hr.mono h)⟩
section
variable {P : Program} {w : World} {K : PySem.W.Frag} {mg : Str → Option Value} {base : Heap}
theorem Fun.okH {x qual : Str} {st : Stmt} {f : Addr} {fd : FuncData} {N ps : List Str} {k : Nat} {sp : Sp} (F : Fun K x qual st f fd) (S : FnScope N ps (defScope st)) (len : ∀ vs H Q E, sp vs H Q E → vs.length = ps.length)
    (hbody : ∀ (cdv : Value) (A : Around) (outer : List Env) (s : Shared) (H : Hp) (vs : List V) (Q : VK) (E : XK), Room k (A.deeper (envOfC qual (defScope st) s.heap.objs.size f cdv)) → sp vs H Q E →
      ∃ t, (∀ ev, PSs ((cxOf CX0 P w K mg base N qual (defScope st) f cdv A outer s H E).hand ev) (defBody st) t) ∧ t { nx := fun _ H' => Q .non H', rt := Q } (start N vs) H) : FnH P w K mg base (k + 1) f fd ps sp := by
  obtain ⟨oc, od, kV, doc, pm, an, cdv, ct, osl, rfl, lk, hcd⟩ := F.ex
  refine ⟨len, fun A ev outer s H args us vs Q E hr e0 hb r hsp => ?_⟩
  have hl := len _ _ _ _ hsp
  have KX : K.In s.heap := e0.mod.kin.keeps fun b o e => (e0.bs b o e).1
  have lim : s.heap.NoLimit := e0.mod.nolimit.keeps fun b o e => (e0.bs b o e).1
  have hkind : ∀ y ∈ ps.zip us, (defScope st).names.lookup y.1 = some .local ∨ ((defScope st).names.lookup y.1 = some .cell ∧ ((cellsFrom (s.heap.objs.size + 1) (defScope st).names []).lookup y.1).isSome = true) := fun ⟨n, v⟩ hy => by
    rcases S.par n (List.of_mem_zip hy).1 with q | q
    · exact .inl q
    · exact .inr ⟨q, PySem.W.cellsFrom_some _ _ _ (.inl q)⟩
  refine codeAny_call_function (A := A.mark (some ev)) hr.depth (KX _ _ lk) rfl S.co S.gen rfl (PySem.W.codeRec_of KX hcd) (hb _ _ _ _ ?_)
  refine wpAny_newFunctionEnv_cells S.kind hkind fun env he s1 x => ?_
  subst he
  refine ⟨lim.keeps x.toInCall.keep, codeAny_func ?_⟩
  obtain ⟨t, ht, hq⟩ := hbody cdv A outer s H vs Q E (hr.deeper _) hsp
  have I : Inv (cxOf CX0 P w K mg base N qual (defScope st) f cdv A outer s H E) [] (start N vs) H s1 := inv_start S hr.hd e0 hl r x
  refine wpAny_mono (ht ev [] s1 (start N vs) H _ (I.hand ev) hq) (fun fl s' hs => ?_) fun e s' hs => False.elim hs
  have fin : ∀ {σ' : St} {H' : Hp} {v : V} {u : Value}, Inv ((cxOf CX0 P w K mg base N qual (defScope st) f cdv A outer s H E).hand ev) [] σ' H' s' → RelV v u → Q v H' → CE outer P w H s Q u s' :=
    fun {σ' H' v u} J rv q => ⟨v, H', J.os, J.bare, J.base, J.hok, rv, q⟩
  cases fl with
  | ret u =>
    obtain ⟨v, σ', H', J, rv, q⟩ := hs
    exact fin J rv q
  | next =>
    obtain ⟨σ', H', J, q⟩ := hs
    exact fin (v := V.non) (u := Value.none) J rfl q
  | brk =>
    obtain ⟨_, _, _, q⟩ := hs
    exact False.elim q
  | cont =>
    obtain ⟨_, _, _, q⟩ := hs
    exact False.elim q
end
theorem pe_defH {X : Cx} {ev : Value} {x : Str} {st : Stmt} {ps : List Str} {f : Addr} {fd : FuncData} {k : Nat} {sp : Sp} {p pos : Pos} {e : Expr} {es : List Expr} {t : TA} (D : Def X.K X.mg x st ps f fd) (G : FnH X.prog X.w X.K X.mg X.base k f fd ps sp) (hr : Room k X.A) (ha : PA (X.hand ev) (e :: es) t)
    (hp : plainE e = true := by rfl) (hps : es.all plainE = true := by rfl) (hg : Gl X x := by rfl) (hdb : (x == ("__debug__" : Str)) = false := by decide) :
    PE (X.hand ev) (.Call (.Name x p) (e :: es) [] pos) (tCall sp [] E0 t) := by
  intro pins s σ H Q I h
  refine wpAny_Call_Name_kw (ld_glob I hg D.m ?_ hdb)
  refine PySem.W.callWith_K (h₀ := X.base) I.ok.mod.kin D.F.kp (thn (ha pos pins s σ H _ I h) fun us s1 ⟨vs, H1, I1, r, q⟩ => ⟨I1.kIn, ?_⟩) (starEach_plain hp _ _) (starAny_plain hps _ _)
  have e0 := I1.env0
  have e1 : Env0 X.prog X.w X.K X.mg X.base X.A X.stack s1 H1 := ⟨e0.frames, e0.mod, e0.bs, e0.bsz, e0.funs, e0.frf, e0.hok, e0.bare⟩
  have q' : sp vs H1 Q E0 := by
    have q2 : sp (vs ++ []) H1 Q E0 := q
    rw [List.append_nil] at q2
    exact q2
  have hl : us.length = ps.length := by rw [← r.length]; exact G.len _ _ _ _ q'
  have hb := D.b s1 us I1.kIn (by rw [List.append_nil]; exact hl)
  rw [List.append_nil] at hb
  refine wpAny_call (codeAny_mono (G.run X.A ev X.stack s1 H1 ⟨us, []⟩ us vs Q E0 hr e1 hb r q') fun r s' hq => ?_)
  cases r with
  | error e => exact False.elim hq
  | ok fl =>
    cases fl with
    | ret u => exact I1.after hq
    | next => exact False.elim hq
    | brk => exact False.elim hq
    | cont => exact False.elim hq
section
variable {X : Cx} {e : Expr} {pos : Pos}
theorem call_sortedA : CallR X (.builtin "sorted") (fun xs H Q => ∃ (a : Addr) (ns : List Int), xs = [.ref a] ∧ SqL X.K H a (ns.map V.int) ∧ ns.length ≤ 1024 ∧ ∀ (l : Addr) (ns' : List Int), H l = none → ns'.Perm ns → ns'.Pairwise (· ≤ ·) → Q (.ref l) (upd H l (.lst (ns'.map V.int)))) := by
  intro pins s σ H xs us Q I r h
  obtain ⟨a, ns, rfl, hq, hz, q⟩ := h
  obtain ⟨u, rfl, ru⟩ := vals1 r
  cases ru
  obtain ⟨its, rv, p, hz'⟩ := I.list hq
  have hi := intsAre_of_vals rv
  have hl : its.length = ns.length := by rw [← rv.length, List.length_map]
  have big : (1024 : Nat) ≤ sizeLine := by decide
  refine Tim.sorted_any p.isList hi (by omega) fun out ns' a1 a2 a3 => ?_
  obtain ⟨e, he⟩ := sortedAll_at s.heap its out
  have hfr : H (s.heap.objs.size + 1) = none := I.hok.fresh (Nat.le_succ _)
  refine ⟨.ref (s.heap.objs.size + 1), _, I.laid (a := s.heap.objs.size + 1) (o := .lst (ns'.map V.int)) (t' := s.toks) (fun _ _ => sortedAll_old) (Nat.le_succ _) ⟨?_, out.toList, e, vals_ints a1, ?_⟩, rfl, q _ _ hfr a2 a3⟩
  · have h1 := a2.length_eq
    rw [List.length_map]
    omega
  · rw [Array.toArray_toList]; exact he
def tMakeX (C : Addr) (sp : Sp) (t : TA) : St → Hp → VK → (Value → Hp → Prop) → Prop := fun σ H Q E => t σ H fun vs H1 => ∀ x dx, H1 x = none → H1 dx = none → dx ≠ x →
  sp (.ref x :: vs) (upd (upd H1 dx (.own x)) x (.ins C dx [])) (fun v H2 => v = .non ∧ Q (.ref x) H2) fun c _ H' => E c H'
theorem pex_makeD {C f : Addr} {x qual kn : Str} {d : Int} {st : Stmt} {fd : FuncData} {k : Nat} {ps : List Str} {sp : Sp} {p : Pos} {es : List Expr} {ta : TA} (ow : OwnFr X) (M : InitD X.K C qual st ps kn d f fd) (G : FnOk X.prog X.w X.K X.mg X.base (CXr X.prog X.w) k f fd ps sp) (hr : Room (k + 1) X.A) (hm : X.mg x = some (.ref C)) (ha : PA X.nox (e :: es) ta)
    (hp : plainE e = true := by rfl) (hps : es.all plainE = true := by rfl) (hg : Gl X x := by rfl) (hdb : (x == ("__debug__" : Str)) = false := by decide) :
    PEX X (.Call (.Name x p) (e :: es) [] pos) (tMakeX C sp ta) := by
  intro pins s σ H Q E I h
  refine wpAny_Call_Name_kw (ld_glob I hg hm ?_ hdb)
  refine PySem.W.callWith_K (h₀ := X.base) I.ok.mod.kin M.made.kp (thn (ha.lift pos pins s σ H _ _ I h) fun us s1 ⟨vs, H1, I1, r, q⟩ => ⟨I1.kIn, ?_⟩) (starEach_plain hp _ _) (starAny_plain hps _ _)
  have hq := q (s1.heap.objs.size + 1) s1.heap.objs.size (I1.hok.fresh (Nat.le_succ _)) (I1.hok.fresh (Nat.le_refl _)) (Nat.ne_of_lt (Nat.lt_succ_self _))
  have I2 := Inv.made (C := C) I1
  have r2 : Vals (V.ref (s1.heap.objs.size + 1) :: vs) (Value.ref (s1.heap.objs.size + 1) :: us) := .cons rfl r
  have hl : (Value.ref (s1.heap.objs.size + 1) :: us).length = ps.length := by rw [← r2.length]; exact G.len _ _ _ _ hq
  have hb := M.b { s1 with heap := _ } (Value.ref (s1.heap.objs.size + 1) :: us) I2.kIn (by rw [List.append_nil]; exact hl)
  rw [List.append_nil] at hb
  refine wpAny_call (make_map (f := f) I1.kIn M.made.makes M.made.init (beq_iff_eq.mp M.made.fn) (codeAny_mono (G.run _ X.stack _ _ ⟨Value.ref (s1.heap.objs.size + 1) :: us, []⟩ (Value.ref (s1.heap.objs.size + 1) :: us) _ _ _ (hr.make C us [])
    (I2.env0.make C us []) hb r2 hq) fun r s' hq' => ?_))
  cases r with
  | error e => exact XL.of_call (E := fun c _ H' => E c H') ow I2 (show CXr X.prog X.w X.stack _ _ (fun c _ H' => E c H') e s' from hq')
  | ok fl =>
    cases fl with
    | ret u =>
      obtain ⟨v, H', I3, rv, ev, q3⟩ := I2.after hq'
      subst ev
      exact ⟨rv, ⟨V.ref (s1.heap.objs.size + 1), H', I3, rfl, q3⟩⟩
    | next => exact False.elim hq'
    | brk => exact False.elim hq'
    | cont => exact False.elim hq'
end
def tMakeK (C : Addr) (sp : Sp) (te : TE) : TE := fun σ H Q => tCons te tNil σ H fun zs H1 => ∃ v, zs = [v] ∧ ∀ x dx, H1 x = none → H1 dx = none → dx ≠ x → sp [.ref x, v] (upd (upd H1 dx (.own x)) x (.ins C dx [])) (fun v H2 => v = .non ∧ Q (.ref x) H2) E0
theorem pe_makeK {X : Cx} {e : Expr} {pos : Pos} {C f : Addr} {x qual kn : Str} {d : Int} {st : Stmt} {fd : FuncData} {k : Nat} {ps : List Str} {sp : Sp} {p kpos : Pos} {te : TE} (M : InitD X.K C qual st ps kn d f fd) (G : FnOk X.prog X.w X.K X.mg X.base (CXr X.prog X.w) k f fd ps sp) (hr : Room (k + 1) X.A) (hm : X.mg x = some (.ref C)) (he : PE X e te)
    (hg : Gl X x := by rfl) (hdb : (x == ("__debug__" : Str)) = false := by decide) (hall : (backToKw pos (keywordEach [⟨some kn, e, kpos⟩] X.env)).all (·.1.isSome) = true := by rfl) (hks : (backToKw pos (keywordEach [⟨some kn, e, kpos⟩] X.env)).filterMap (·.1) = [kn] := by rfl)
    (hpl : ((backTo pos (starEach [] X.env)).any (·.1) || (backToKw pos (keywordEach [⟨some kn, e, kpos⟩] X.env)).any (·.1.isNone)) = false := by rfl) :
    PE X (.Call (.Name x p) [] [⟨some kn, e, kpos⟩] pos) (tMakeK C sp te) := by
  intro pins s σ H Q I h
  refine wpAny_Call_Name_kw (ld_glob I hg hm ?_ hdb)
  refine PySem.W.callWith_KW0 (h₀ := X.base) I.ok.mod.kin M.made.kp hall (thn (pk_cons he pk_nil pos pins s σ H (fun zs H1 => ∃ v, zs = [v] ∧ ∀ x dx, H1 x = none → H1 dx = none → dx ≠ x → sp [.ref x, v] (upd (upd H1 dx (.own x)) x (.ins C dx [])) (fun v H2 => v = .non ∧ Q (.ref x) H2) E0) I ?_) fun ws s1 ⟨zs, H1, I1, rz, v, ez, q⟩ => ⟨I1.kIn, ?_⟩) hpl
  · exact h
  subst ez
  obtain ⟨u, rfl, ru⟩ := vals1 rz
  rw [hks]
  show wpAny _ _ (call (.ref C) [] [(kn, u)]) _ _ s1
  have hq := q (s1.heap.objs.size + 1) s1.heap.objs.size (I1.hok.fresh (Nat.le_succ _)) (I1.hok.fresh (Nat.le_refl _)) (Nat.ne_of_lt (Nat.lt_succ_self _))
  have I2 := Inv.made (C := C) I1
  have r2 : Vals [V.ref (s1.heap.objs.size + 1), v] [Value.ref (s1.heap.objs.size + 1), u] := .cons rfl (.cons ru .nil)
  refine wpAny_call (make_map (f := f) (vs := []) (kw := [(kn, u)]) I1.kIn M.made.makes M.made.init (beq_iff_eq.mp M.made.fn) (codeAny_mono (G.run _ X.stack _ _ ⟨[Value.ref (s1.heap.objs.size + 1)], [(kn, u)]⟩ [Value.ref (s1.heap.objs.size + 1), u] _ _ E0 (hr.make C [] [(kn, u)])
    (I2.env0.make C [] [(kn, u)]) (M.bk _ _ _ I2.kIn) r2 hq) fun r s' hq' => ?_))
  cases r with
  | error e => exact passN pins σ _ _ e s' I2 hq'
  | ok fl =>
    cases fl with
    | ret u =>
      obtain ⟨v, H', I3, rv, ev, q3⟩ := I2.after hq'
      subst ev
      exact ⟨rv, ⟨V.ref (s1.heap.objs.size + 1), H', I3, rfl, q3⟩⟩
    | next => exact False.elim hq'
    | brk => exact False.elim hq'
    | cont => exact False.elim hq'
theorem rd_makeK {σ : St} {H : Hp} {Q : VK} {C : Addr} {sp : Sp} {te : TE} (q : te σ H fun y H1 => ∃ v, [y] = [v] ∧ ∀ x dx, H1 x = none → H1 dx = none → dx ≠ x → sp [.ref x, v] (upd (upd H1 dx (.own x)) x (.ins C dx [])) (fun v H2 => v = .non ∧ Q (.ref x) H2) E0) : tMakeK C sp te σ H Q := q
theorem rd_makeX {σ : St} {H : Hp} {Q : VK} {E : Value → Hp → Prop} {C : Addr} {sp : Sp} {t : TA} (q : t σ H fun vs H1 => ∀ x dx, H1 x = none → H1 dx = none → dx ≠ x → sp (.ref x :: vs) (upd (upd H1 dx (.own x)) x (.ins C dx [])) (fun v H2 => v = .non ∧ Q (.ref x) H2) fun c _ H' => E c H') : tMakeX C sp t σ H Q E := q
end L2
set_option linter.all false
set_option maxRecDepth 100000
namespace L2
end L2
local macro_rules | `(tactic| tm_at "rd1") => `(tactic| first
  | ((with_reducible refine L2.rd_makeX ?_))
  | ((with_reducible refine L2.rd_makeK ?_)))
set_option linter.all false
set_option maxRecDepth 100000
namespace Law
open PySem L2 Ring
def spHGuestsA (C : Addr) : Sp := fun vs H Q _ => ∃ (p : Addr) (m : Int) (t : Seats), vs = [.ref p] ∧ HouseAt C H p m t ∧ t.length ≤ 1024 ∧ (who t).length ≤ 1024 ∧ ∀ (l : Addr) (ns : List Int) (H' : Hp), Same H H' → H l = none → H' l = some (.lst (ns.map V.int)) → ns.Perm (who t) → ns.Pairwise (· ≤ ·) → Q (.ref l) H'
def OddX (H : Hp) (x : V) : Prop := (∃ b, x = .bl b) ∨ x = .non ∨ (∃ z, x = .str z) ∨ ∃ a, x = .ref a ∧ ((∃ xs, H a = some (.lst xs)) ∨ (∃ xs, H a = some (.tup xs)) ∨ ∃ kvs, H a = some (.dK kvs))
theorem OddX.frm {H H' : Hp} {x : V} {p : Addr} (h : OddX H x) (f : Frm p H H') (hp : ∃ C dx fs, H p = some (.ins C dx fs)) : OddX H' x := by
  obtain ⟨C, dx, fs, hp⟩ := hp
  rcases h with h | h | h | ⟨a, rfl, h⟩
  · exact .inl h
  · exact .inr (.inl h)
  · exact .inr (.inr (.inl h))
  · refine .inr (.inr (.inr ⟨a, rfl, ?_⟩))
    rcases h with ⟨xs, h⟩ | ⟨xs, h⟩ | ⟨xs, h⟩
    · exact .inl ⟨xs, f _ _ (fun z => by rw [z, hp] at h; cases h) h⟩
    · exact .inr (.inl ⟨xs, f _ _ (fun z => by rw [z, hp] at h; cases h) h⟩)
    · exact .inr (.inr ⟨xs, f _ _ (fun z => by rw [z, hp] at h; cases h) h⟩)
theorem OddX.same {H H' : Hp} {x : V} (h : OddX H x) (s : Same H H') : OddX H' x := by
  rcases h with h | h | h | ⟨a, rfl, h⟩
  · exact .inl h
  · exact .inr (.inl h)
  · exact .inr (.inr (.inl h))
  · refine .inr (.inr (.inr ⟨a, rfl, ?_⟩))
    rcases h with ⟨xs, h⟩ | ⟨xs, h⟩ | ⟨xs, h⟩
    · exact .inl ⟨xs, s _ _ h⟩
    · exact .inr (.inl ⟨xs, s _ _ h⟩)
    · exact .inr (.inr ⟨xs, s _ _ h⟩)
def fl6 (i : Nat) : List V := [.bl (decide (0 = i)), .bl (decide (1 = i)), .bl (decide (2 = i)), .bl (decide (3 = i)), .bl (decide (4 = i)), .bl true]
end Law
set_option Elab.async false
set_option linter.all false
set_option maxRecDepth 100000
set_option maxHeartbeats 1000000
namespace Law
open PySem L2 Ring
def top (i : Nat) : Stmt := PySem.Challenge.pw_ringseat_k10_a_house.main.body.getD i (.Pass ⟨0, 0, 0, 0⟩)
abbrev s_is_whole : Stmt := top 11
abbrev s_is_guest : Stmt := top 12
abbrev s_home : Stmt := top 13
abbrev s_carried : Stmt := top 14
abbrev s_ahead : Stmt := top 15
abbrev s_room : Stmt := top 16
abbrev s_check_guest : Stmt := top 18
abbrev s_passed : Stmt := top 19
abbrev s_place_of : Stmt := top 20
abbrev s_seat_in : Stmt := top 22
abbrev s_put : Stmt := top 23
abbrev s_seat_out : Stmt := top 24
abbrev s_check_list : Stmt := top 25
abbrev s_seated : Stmt := top 26
abbrev s_all_in : Stmt := top 29
abbrev s_fitted : Stmt := top 30
abbrev s_l_cell_at : Stmt := top 33
abbrev s_l_whole : Stmt := top 34
abbrev s_l_home : Stmt := top 35
abbrev s_l_settled : Stmt := top 36
abbrev s_l_size : Stmt := top 37
abbrev s_l_odd : Stmt := top 38
abbrev s_l_kinds : Stmt := top 39
abbrev s_l_only : Stmt := top 40
abbrev s_l_made : Stmt := top 41
abbrev s_l_comes : Stmt := top 42
abbrev s_l_goes : Stmt := top 43
abbrev s_l_looked_for : Stmt := top 44
abbrev s_l_sits : Stmt := top 45
abbrev s_l_there : Stmt := top 46
abbrev s_l_no_guest : Stmt := top 47
abbrev s_l_most : Stmt := top 48
abbrev s_l_all : Stmt := top 49
abbrev s_l_house : Stmt := top 50
abbrev s_law : Stmt := top 51
theorem sc_is_whole : FnScope ["thing"] ["thing"] (defScope s_is_whole) := ⟨rfl, rfl, rfl, by decide +kernel, rfl, by decide +kernel, by decide +kernel⟩
theorem sc_is_guest : FnScope ["thing"] ["thing"] (defScope s_is_guest) := ⟨rfl, rfl, rfl, by decide +kernel, rfl, by decide +kernel, by decide +kernel⟩
theorem sc_home : FnScope ["guest", "many"] ["guest", "many"] (defScope s_home) := ⟨rfl, rfl, rfl, by decide +kernel, rfl, by decide +kernel, by decide +kernel⟩
theorem sc_carried : FnScope ["guest", "at", "many"] ["guest", "at", "many"] (defScope s_carried) := ⟨rfl, rfl, rfl, by decide +kernel, rfl, by decide +kernel, by decide +kernel⟩
theorem sc_ahead : FnScope ["one", "other", "at", "many", "way_of_one", "way_of_other"] ["one", "other", "at", "many"] (defScope s_ahead) := ⟨rfl, rfl, rfl, by decide +kernel, rfl, by decide +kernel, by decide +kernel⟩
theorem sc_room : FnScope ["count", "seats"] ["count"] (defScope s_room) := ⟨rfl, rfl, rfl, by decide +kernel, rfl, by decide +kernel, by decide +kernel⟩
theorem sc_check_guest : FnScope ["thing"] ["thing"] (defScope s_check_guest) := ⟨rfl, rfl, rfl, by decide +kernel, rfl, by decide +kernel, by decide +kernel⟩
theorem sc_passed : FnScope ["seats", "guest", "many", "steps", "at"] ["seats", "guest"] (defScope s_passed) := ⟨rfl, rfl, rfl, by decide +kernel, rfl, by decide +kernel, by decide +kernel⟩
theorem sc_place_of : FnScope ["seats", "guest", "many", "at"] ["seats", "guest"] (defScope s_place_of) := ⟨rfl, rfl, rfl, by decide +kernel, rfl, by decide +kernel, by decide +kernel⟩
theorem sc_seat_in : FnScope ["seats", "guest", "answer"] ["seats", "guest"] (defScope s_seat_in) := ⟨rfl, rfl, rfl, by decide +kernel, rfl, by decide +kernel, by decide +kernel⟩
theorem sc_put : FnScope ["seats", "guest", "many", "moving", "at", "sitting"] ["seats", "guest"] (defScope s_put) := ⟨rfl, rfl, rfl, by decide +kernel, rfl, by decide +kernel, by decide +kernel⟩
theorem sc_seat_out : FnScope ["seats", "guest", "gap", "many", "answer", "at"] ["seats", "guest"] (defScope s_seat_out) := ⟨rfl, rfl, rfl, by decide +kernel, rfl, by decide +kernel, by decide +kernel⟩
theorem sc_check_list : FnScope ["guests", "many", "thing"] ["guests", "many"] (defScope s_check_list) := ⟨rfl, rfl, rfl, by decide +kernel, rfl, by decide +kernel, by decide +kernel⟩
theorem sc_seated : FnScope ["guests", "many", "seats", "guest"] ["guests", "many"] (defScope s_seated) := ⟨rfl, rfl, rfl, by decide +kernel, rfl, by decide +kernel, by decide +kernel⟩
theorem sc_all_in : FnScope ["seats"] ["seats"] (defScope s_all_in) := ⟨rfl, rfl, rfl, by decide +kernel, rfl, by decide +kernel, by decide +kernel⟩
theorem sc_fitted : FnScope ["seats", "present", "many"] ["seats"] (defScope s_fitted) := ⟨rfl, rfl, rfl, by decide +kernel, rfl, by decide +kernel, by decide +kernel⟩
theorem sc_l_cell_at : FnScope ["_law_script", "_law_k"] ["_law_script", "_law_k"] (defScope s_l_cell_at) := ⟨rfl, rfl, rfl, by decide +kernel, rfl, by decide +kernel, by decide +kernel⟩
theorem sc_l_whole : FnScope ["_law_found"] ["_law_found"] (defScope s_l_whole) := ⟨rfl, rfl, rfl, by decide +kernel, rfl, by decide +kernel, by decide +kernel⟩
theorem sc_l_home : FnScope ["_law_guest", "_law_many"] ["_law_guest", "_law_many"] (defScope s_l_home) := ⟨rfl, rfl, rfl, by decide +kernel, rfl, by decide +kernel, by decide +kernel⟩
theorem sc_l_settled : FnScope ["_law_seats", "_law_guests", "_law_many", "_law_at", "_law_way", "_law_before"] ["_law_seats", "_law_guests"] (defScope s_l_settled) := ⟨rfl, rfl, rfl, by decide +kernel, rfl, by decide +kernel, by decide +kernel⟩
theorem sc_l_size : FnScope ["_law_cell", "_law_number", "_law_some"] ["_law_cell"] (defScope s_l_size) := ⟨rfl, rfl, rfl, by decide +kernel, rfl, by decide +kernel, by decide +kernel⟩
theorem sc_l_odd : FnScope ["_law_cell", "_law_number", "_law_some"] ["_law_cell"] (defScope s_l_odd) := ⟨rfl, rfl, rfl, by decide +kernel, rfl, by decide +kernel, by decide +kernel⟩
theorem sc_l_kinds : FnScope ["_law_e", "_law_base"] ["_law_e"] (defScope s_l_kinds) := ⟨rfl, rfl, rfl, by decide +kernel, rfl, by decide +kernel, by decide +kernel⟩
theorem sc_l_only : FnScope ["_law_at"] ["_law_at"] (defScope s_l_only) := ⟨rfl, rfl, rfl, by decide +kernel, rfl, by decide +kernel, by decide +kernel⟩
theorem sc_l_made : FnScope ["_law_size_here", "_law_e"] ["_law_size_here"] (defScope s_l_made) := ⟨rfl, rfl, rfl, by decide +kernel, rfl, by decide +kernel, by decide +kernel⟩
theorem sc_l_comes : FnScope ["_law_house_here", "_law_guest", "_law_e"] ["_law_house_here", "_law_guest"] (defScope s_l_comes) := ⟨rfl, rfl, rfl, by decide +kernel, rfl, by decide +kernel, by decide +kernel⟩
theorem sc_l_goes : FnScope ["_law_house_here", "_law_guest", "_law_e"] ["_law_house_here", "_law_guest"] (defScope s_l_goes) := ⟨rfl, rfl, rfl, by decide +kernel, rfl, by decide +kernel, by decide +kernel⟩
theorem sc_l_looked_for : FnScope ["_law_house_here", "_law_guest", "_law_e"] ["_law_house_here", "_law_guest"] (defScope s_l_looked_for) := ⟨rfl, rfl, rfl, by decide +kernel, rfl, by decide +kernel, by decide +kernel⟩
theorem sc_l_sits : FnScope ["_law_house_here", "_law_guest", "_law_at", "_law_seats"] ["_law_house_here", "_law_guest"] (defScope s_l_sits) := ⟨rfl, rfl, rfl, by decide +kernel, rfl, by decide +kernel, by decide +kernel⟩
theorem sc_l_there : FnScope ["_law_house_here", "_law_guests", "_law_many", "_law_found", "_law_guest"] ["_law_house_here", "_law_guests"] (defScope s_l_there) := ⟨rfl, rfl, rfl, by decide +kernel, rfl, by decide +kernel, by decide +kernel⟩
theorem sc_l_no_guest : FnScope ["_law_house_here", "_law_thing", "_law_due"] ["_law_house_here", "_law_thing"] (defScope s_l_no_guest) := ⟨rfl, rfl, rfl, by decide +kernel, rfl, by decide +kernel, by decide +kernel⟩
theorem sc_l_most : FnScope ["_law_cell"] ["_law_cell"] (defScope s_l_most) := ⟨rfl, rfl, rfl, by decide +kernel, rfl, by decide +kernel, by decide +kernel⟩
theorem sc_l_all : FnScope ["_law_cell", "_law_first", "_law_limit", "_law_step", "_law_crowd"] ["_law_cell", "_law_first", "_law_limit"] (defScope s_l_all) := ⟨rfl, rfl, rfl, by decide +kernel, rfl, by decide +kernel, by decide +kernel⟩
theorem sc_l_house : FnScope ["_law_cell", "_law_limit"] ["_law_cell", "_law_limit"] (defScope s_l_house) := ⟨rfl, rfl, rfl, by decide +kernel, rfl, by decide +kernel, by decide +kernel⟩
theorem sc_law : FnScope ["_law_script", "_law_limit", "_law_house_here", "_law_guests", "_law_thing", "_law_last", "_law_guest", "_law_seats", "_law_due", "_law_gone", "_law_left"] ["_law_script"] (defScope s_law) := ⟨rfl, rfl, rfl, by decide +kernel, rfl, by decide +kernel, by decide +kernel⟩
abbrev s_House___init__ : Stmt := inClass (top 31) 0
theorem sc_House___init__ : FnScope ["self", "most"] ["self", "most"] (defScope s_House___init__) := ⟨rfl, rfl, rfl, by decide +kernel, rfl, by decide +kernel, by decide +kernel⟩
abbrev s_House_come : Stmt := inClass (top 31) 1
theorem sc_House_come : FnScope ["self", "guest"] ["self", "guest"] (defScope s_House_come) := ⟨rfl, rfl, rfl, by decide +kernel, rfl, by decide +kernel, by decide +kernel⟩
abbrev s_House_go : Stmt := inClass (top 31) 2
theorem sc_House_go : FnScope ["self", "guest", "at"] ["self", "guest"] (defScope s_House_go) := ⟨rfl, rfl, rfl, by decide +kernel, rfl, by decide +kernel, by decide +kernel⟩
abbrev s_House_seat_of : Stmt := inClass (top 31) 3
theorem sc_House_seat_of : FnScope ["self", "guest"] ["self", "guest"] (defScope s_House_seat_of) := ⟨rfl, rfl, rfl, by decide +kernel, rfl, by decide +kernel, by decide +kernel⟩
abbrev s_House_row : Stmt := inClass (top 31) 4
theorem sc_House_row : FnScope ["self"] ["self"] (defScope s_House_row) := ⟨rfl, rfl, rfl, by decide +kernel, rfl, by decide +kernel, by decide +kernel⟩
abbrev s_House_guests : Stmt := inClass (top 31) 5
theorem sc_House_guests : FnScope ["self"] ["self"] (defScope s_House_guests) := ⟨rfl, rfl, rfl, by decide +kernel, rfl, by decide +kernel, by decide +kernel⟩
abbrev s_House_many : Stmt := inClass (top 31) 6
theorem sc_House_many : FnScope ["self"] ["self"] (defScope s_House_many) := ⟨rfl, rfl, rfl, by decide +kernel, rfl, by decide +kernel, by decide +kernel⟩
structure Cs where
  RingError : Addr
  NoGuest : Addr
  NoSize : Addr
  Twice : Addr
  Away : Addr
  Full : Addr
  House : Addr
structure Txt (K : PySem.W.Frag) (mg : Str → Option Value) (cs : Cs) : Prop where
  m_RingError : mg "RingError" = some (.ref cs.RingError)
  m_NoGuest : mg "NoGuest" = some (.ref cs.NoGuest)
  K_NoGuest : ExcC K mg "NoGuest" cs.NoGuest
  x_NoGuest : PySem.W.exmOne K (.ref cs.NoGuest) (.ref cs.RingError) = some true
  v_NoGuest : PySem.W.kitOne K (.ref cs.NoGuest) (.type "ValueError") = some true
  i_NoGuest_RingError : PySem.W.kitOne K (.ref cs.NoGuest) (.ref cs.RingError) = some true
  i_NoGuest_NoGuest : PySem.W.kitOne K (.ref cs.NoGuest) (.ref cs.NoGuest) = some true
  i_NoGuest_NoSize : PySem.W.kitOne K (.ref cs.NoGuest) (.ref cs.NoSize) = some false
  i_NoGuest_Twice : PySem.W.kitOne K (.ref cs.NoGuest) (.ref cs.Twice) = some false
  i_NoGuest_Away : PySem.W.kitOne K (.ref cs.NoGuest) (.ref cs.Away) = some false
  i_NoGuest_Full : PySem.W.kitOne K (.ref cs.NoGuest) (.ref cs.Full) = some false
  m_NoSize : mg "NoSize" = some (.ref cs.NoSize)
  K_NoSize : ExcC K mg "NoSize" cs.NoSize
  x_NoSize : PySem.W.exmOne K (.ref cs.NoSize) (.ref cs.RingError) = some true
  v_NoSize : PySem.W.kitOne K (.ref cs.NoSize) (.type "ValueError") = some true
  i_NoSize_RingError : PySem.W.kitOne K (.ref cs.NoSize) (.ref cs.RingError) = some true
  i_NoSize_NoGuest : PySem.W.kitOne K (.ref cs.NoSize) (.ref cs.NoGuest) = some false
  i_NoSize_NoSize : PySem.W.kitOne K (.ref cs.NoSize) (.ref cs.NoSize) = some true
  i_NoSize_Twice : PySem.W.kitOne K (.ref cs.NoSize) (.ref cs.Twice) = some false
  i_NoSize_Away : PySem.W.kitOne K (.ref cs.NoSize) (.ref cs.Away) = some false
  i_NoSize_Full : PySem.W.kitOne K (.ref cs.NoSize) (.ref cs.Full) = some false
  m_Twice : mg "Twice" = some (.ref cs.Twice)
  K_Twice : ExcC K mg "Twice" cs.Twice
  x_Twice : PySem.W.exmOne K (.ref cs.Twice) (.ref cs.RingError) = some true
  v_Twice : PySem.W.kitOne K (.ref cs.Twice) (.type "ValueError") = some true
  i_Twice_RingError : PySem.W.kitOne K (.ref cs.Twice) (.ref cs.RingError) = some true
  i_Twice_NoGuest : PySem.W.kitOne K (.ref cs.Twice) (.ref cs.NoGuest) = some false
  i_Twice_NoSize : PySem.W.kitOne K (.ref cs.Twice) (.ref cs.NoSize) = some false
  i_Twice_Twice : PySem.W.kitOne K (.ref cs.Twice) (.ref cs.Twice) = some true
  i_Twice_Away : PySem.W.kitOne K (.ref cs.Twice) (.ref cs.Away) = some false
  i_Twice_Full : PySem.W.kitOne K (.ref cs.Twice) (.ref cs.Full) = some false
  m_Away : mg "Away" = some (.ref cs.Away)
  K_Away : ExcC K mg "Away" cs.Away
  x_Away : PySem.W.exmOne K (.ref cs.Away) (.ref cs.RingError) = some true
  v_Away : PySem.W.kitOne K (.ref cs.Away) (.type "ValueError") = some true
  i_Away_RingError : PySem.W.kitOne K (.ref cs.Away) (.ref cs.RingError) = some true
  i_Away_NoGuest : PySem.W.kitOne K (.ref cs.Away) (.ref cs.NoGuest) = some false
  i_Away_NoSize : PySem.W.kitOne K (.ref cs.Away) (.ref cs.NoSize) = some false
  i_Away_Twice : PySem.W.kitOne K (.ref cs.Away) (.ref cs.Twice) = some false
  i_Away_Away : PySem.W.kitOne K (.ref cs.Away) (.ref cs.Away) = some true
  i_Away_Full : PySem.W.kitOne K (.ref cs.Away) (.ref cs.Full) = some false
  m_Full : mg "Full" = some (.ref cs.Full)
  K_Full : ExcC K mg "Full" cs.Full
  x_Full : PySem.W.exmOne K (.ref cs.Full) (.ref cs.RingError) = some true
  v_Full : PySem.W.kitOne K (.ref cs.Full) (.type "ValueError") = some true
  i_Full_RingError : PySem.W.kitOne K (.ref cs.Full) (.ref cs.RingError) = some true
  i_Full_NoGuest : PySem.W.kitOne K (.ref cs.Full) (.ref cs.NoGuest) = some false
  i_Full_NoSize : PySem.W.kitOne K (.ref cs.Full) (.ref cs.NoSize) = some false
  i_Full_Twice : PySem.W.kitOne K (.ref cs.Full) (.ref cs.Twice) = some false
  i_Full_Away : PySem.W.kitOne K (.ref cs.Full) (.ref cs.Away) = some false
  i_Full_Full : PySem.W.kitOne K (.ref cs.Full) (.ref cs.Full) = some true
  m_House : mg "House" = some (.ref cs.House)
  cl_House : Cls K cs.House
  na_most : NoAttr K cs.House "most"
  na_seats : NoAttr K cs.House "seats"
  h_init : ∃ f fd, InitD K cs.House "House.__init__" s_House___init__ ["self", "most"] "most" 96 f fd
  h_come : ∃ f fd, MethD K cs.House "come" "House.come" s_House_come ["self", "guest"] f fd
  h_go : ∃ f fd, MethD K cs.House "go" "House.go" s_House_go ["self", "guest"] f fd
  h_seat_of : ∃ f fd, MethD K cs.House "seat_of" "House.seat_of" s_House_seat_of ["self", "guest"] f fd
  h_row : ∃ f fd, MethD K cs.House "row" "House.row" s_House_row ["self"] f fd
  h_guests : ∃ f fd, MethD K cs.House "guests" "House.guests" s_House_guests ["self"] f fd
  h_many : ∃ f fd, MethD K cs.House "many" "House.many" s_House_many ["self"] f fd
  n_ValueError : mg "ValueError" = none
  n_len : mg "len" = none
  n_list : mg "list" = none
  n_range : mg "range" = none
  n_isinstance : mg "isinstance" = none
  n_int : mg "int" = none
  n_sorted : mg "sorted" = none
  n_bool : mg "bool" = none
  n_set : mg "set" = none
  k_int_int : PySem.W.kitOne K (.type "int") (.type "int") = some true
  k_int_bool : PySem.W.kitOne K (.type "int") (.type "bool") = some false
  k_bool_int : PySem.W.kitOne K (.type "bool") (.type "int") = some true
  k_bool_bool : PySem.W.kitOne K (.type "bool") (.type "bool") = some true
  k_NoneType_bool : PySem.W.kitOne K (.type "NoneType") (.type "bool") = some false
  k_NoneType_int : PySem.W.kitOne K (.type "NoneType") (.type "int") = some false
  k_str_bool : PySem.W.kitOne K (.type "str") (.type "bool") = some false
  k_str_int : PySem.W.kitOne K (.type "str") (.type "int") = some false
  k_tuple_bool : PySem.W.kitOne K (.type "tuple") (.type "bool") = some false
  k_tuple_int : PySem.W.kitOne K (.type "tuple") (.type "int") = some false
  k_list_bool : PySem.W.kitOne K (.type "list") (.type "bool") = some false
  k_list_int : PySem.W.kitOne K (.type "list") (.type "int") = some false
  k_dict_bool : PySem.W.kitOne K (.type "dict") (.type "bool") = some false
  k_dict_int : PySem.W.kitOne K (.type "dict") (.type "int") = some false
  k_list_list : PySem.W.kitOne K (.type "list") (.type "list") = some true
  g_FACTOR : ∃ t, mg "FACTOR" = some (.int 40503 t)
  g_SPREAD : ∃ t, mg "SPREAD" = some (.int 65536 t)
  g_HOUSE_RINGS : ∃ a, mg "HOUSE_RINGS" = some (.ref a) ∧ TupC K a [.int 8, .int 16, .int 32, .int 64, .int 128, .int 256]
  g_GREATEST_MOST : ∃ t, mg "GREATEST_MOST" = some (.int 192 t)
  d_is_whole : ∃ f fd, Def K mg "is_whole" s_is_whole ["thing"] f fd
  d_is_guest : ∃ f fd, Def K mg "is_guest" s_is_guest ["thing"] f fd
  d_home : ∃ f fd, Def K mg "home" s_home ["guest", "many"] f fd
  d_carried : ∃ f fd, Def K mg "carried" s_carried ["guest", "at", "many"] f fd
  d_ahead : ∃ f fd, Def K mg "ahead" s_ahead ["one", "other", "at", "many"] f fd
  d_room : ∃ f fd, Def K mg "room" s_room ["count"] f fd
  d_check_guest : ∃ f fd, Def K mg "check_guest" s_check_guest ["thing"] f fd
  d_passed : ∃ f fd, Def K mg "passed" s_passed ["seats", "guest"] f fd
  d_place_of : ∃ f fd, Def K mg "place_of" s_place_of ["seats", "guest"] f fd
  d_seat_in : ∃ f fd, Def K mg "seat_in" s_seat_in ["seats", "guest"] f fd
  d_put : ∃ f fd, Def K mg "put" s_put ["seats", "guest"] f fd
  d_seat_out : ∃ f fd, Def K mg "seat_out" s_seat_out ["seats", "guest"] f fd
  d_check_list : ∃ f fd, Def K mg "check_list" s_check_list ["guests", "many"] f fd
  d_seated : ∃ f fd, Def K mg "seated" s_seated ["guests", "many"] f fd
  d_all_in : ∃ f fd, Def K mg "all_in" s_all_in ["seats"] f fd
  d_fitted : ∃ f fd, Def K mg "fitted" s_fitted ["seats"] f fd
  d_l_cell_at : ∃ f fd, Def K mg "_law_cell_at" s_l_cell_at ["_law_script", "_law_k"] f fd
  d_l_whole : ∃ f fd, Def K mg "_law_whole" s_l_whole ["_law_found"] f fd
  d_l_home : ∃ f fd, Def K mg "_law_home" s_l_home ["_law_guest", "_law_many"] f fd
  d_l_settled : ∃ f fd, Def K mg "_law_settled" s_l_settled ["_law_seats", "_law_guests"] f fd
  d_l_size : ∃ f fd, Def K mg "_law_size" s_l_size ["_law_cell"] f fd
  d_l_odd : ∃ f fd, Def K mg "_law_odd" s_l_odd ["_law_cell"] f fd
  d_l_kinds : ∃ f fd, Def K mg "_law_kinds" s_l_kinds ["_law_e"] f fd
  d_l_only : ∃ f fd, Def K mg "_law_only" s_l_only ["_law_at"] f fd
  d_l_made : ∃ f fd, Def K mg "_law_made" s_l_made ["_law_size_here"] f fd
  d_l_comes : ∃ f fd, Def K mg "_law_comes" s_l_comes ["_law_house_here", "_law_guest"] f fd
  d_l_goes : ∃ f fd, Def K mg "_law_goes" s_l_goes ["_law_house_here", "_law_guest"] f fd
  d_l_looked_for : ∃ f fd, Def K mg "_law_looked_for" s_l_looked_for ["_law_house_here", "_law_guest"] f fd
  d_l_sits : ∃ f fd, Def K mg "_law_sits" s_l_sits ["_law_house_here", "_law_guest"] f fd
  d_l_there : ∃ f fd, Def K mg "_law_there" s_l_there ["_law_house_here", "_law_guests"] f fd
  d_l_no_guest : ∃ f fd, Def K mg "_law_no_guest" s_l_no_guest ["_law_house_here", "_law_thing"] f fd
  d_l_most : ∃ f fd, Def K mg "_law_most" s_l_most ["_law_cell"] f fd
  d_l_all : ∃ f fd, Def K mg "_law_all" s_l_all ["_law_cell", "_law_first", "_law_limit"] f fd
  d_l_house : ∃ f fd, Def K mg "_law_house" s_l_house ["_law_cell", "_law_limit"] f fd
seal L2.PE L2.PT L2.PW L2.PA L2.PS L2.PSs L2.PG L2.PGs L2.PI L2.PC L2.PK L2.PO L2.PIfs L2.PSX L2.PSsX L2.PEX L2.PTX
abbrev CXL : CXT := CX0
abbrev lawK : Nat := 14
abbrev LHP : List Str := ["_law_guest", "_law_many"]
section
variable {P : Program} {w : World} {K : PySem.W.Frag} {mg : Str → Option Value} {base : Heap} {f : Addr} {fd : FuncData} {cs : Cs}
theorem ok_home (D : Def K mg "home" s_home ["guest", "many"] f fd) (T : Txt K mg cs) : FnOk P w K mg base CX0 1 f fd ["guest", "many"] spHome := by
  refine D.F.ok sc_home (fun vs H Q E h => ?_) (fun cdv A outer s H vs Q E hr h => ?_)
  · obtain ⟨g, m, rfl, _⟩ := h
    rfl
  · obtain ⟨g, m, rfl, hm, q⟩ := h
    obtain ⟨t1, g_FACTOR⟩ := T.g_FACTOR
    obtain ⟨t2, g_SPREAD⟩ := T.g_SPREAD
    refine ⟨_, (pss_one (ps_ret (pe_op op_mod (pe_op op_mod (pe_op op_add (pe_op op_mul (pv 0) (pe_gint g_FACTOR)) (pe_op op_fdiv (pv 0) (pe_gint g_SPREAD))) (pe_gint g_SPREAD)) (pv 1)))), ?_⟩
    tm_at "rd"
    exact q
theorem ok_carried (D : Def K mg "carried" s_carried ["guest", "at", "many"] f fd) (T : Txt K mg cs) : FnOk P w K mg base CX0 2 f fd ["guest", "at", "many"] spCarried := by
  obtain ⟨f1, fd1, D_home⟩ := T.d_home
  have G_home : FnOk P w K mg base CX0 1 f1 fd1 _ _ := ok_home D_home T
  refine D.F.ok sc_carried (fun vs H Q E h => ?_) (fun cdv A outer s H vs Q E hr1 h => ?_)
  · obtain ⟨g, p, m, rfl, _⟩ := h
    rfl
  · obtain ⟨g, p, m, rfl, hm, q⟩ := h
    refine ⟨_, (pss_one (ps_ret (pe_op op_mod (pe_op op_sub (pv 1) (pe_def D_home G_home hr1 (pa_c (pv 0) (pa_c (pv 2) pa_nil)))) (pv 2)))), ?_⟩
    tm_at "rd"
    refine rd_home hm ?_
    tm_at "rd"
    exact q
theorem ok_ahead (D : Def K mg "ahead" s_ahead ["one", "other", "at", "many"] f fd) (T : Txt K mg cs) : FnOk P w K mg base CX0 3 f fd ["one", "other", "at", "many"] spAhead := by
  obtain ⟨f1, fd1, D_carried⟩ := T.d_carried
  have G_carried : FnOk P w K mg base CX0 2 f1 fd1 _ _ := ok_carried D_carried T
  refine D.F.ok sc_ahead (fun vs H Q E h => ?_) (fun cdv A outer s H vs Q E hr1 h => ?_)
  · obtain ⟨x, y, p, m, rfl, _⟩ := h
    rfl
  · obtain ⟨x, y, p, m, rfl, hm, q⟩ := h
    have nd := sc_ahead.nd
    refine ⟨_, (pss_cons (ps_set (i := 4) nd rfl (Or.inl rfl) (pe_def D_carried G_carried hr1 (pa_c (pv 0) (pa_c (pv 2) (pa_c (pv 3) pa_nil)))))
      (pss_cons (ps_set (i := 5) nd rfl (Or.inl rfl) (pe_def D_carried G_carried hr1 (pa_c (pv 1) (pa_c (pv 2) (pa_c (pv 3) pa_nil)))))
      (pss_cons (ps_if (pt_cmpR op_eq (pv 4) (pv 5) (nomark _)) (pss_one (ps_ret (pe_cmpR op_lt (pv 0) (pv 1) (nomark _)))) pss_nil)
      (pss_one (ps_ret (pe_cmpR op_gt (pv 4) (pv 5) (nomark _))))))), ?_⟩
    tm_at "rd"
    refine rd_carried hm ?_
    tm_at "rd"
    refine rd_carried hm ?_
    tm_at "rd"
    refine iteD (fun e => ?_) (fun e => ?_)
    · tm_at "rd"
      have : aheadF x y p m = decide (x < y) := by
        unfold aheadF
        rw [e, decide_eq_false (Int.lt_irrefl _), decide_eq_true rfl]
        rfl
      rw [this] at q
      exact q
    · tm_at "rd"
      have : aheadF x y p m = decide (far y p m < far x p m) := by
        unfold aheadF
        rw [decide_eq_false e, Bool.false_and, Bool.or_false]
      rw [this] at q
      exact q
theorem ok_l_home (D : Def K mg "_law_home" s_l_home LHP f fd) (T : Txt K mg cs) : FnOk P w K mg base CX0 1 f fd LHP spHome := by
  refine D.F.ok sc_l_home (fun vs H Q E h => ?_) (fun cdv A outer s H vs Q E hr h => ?_)
  · obtain ⟨g, m, rfl, _⟩ := h
    rfl
  · obtain ⟨g, m, rfl, hm, q⟩ := h
    refine ⟨_, (pss_one (ps_ret (pe_op op_mod (pe_op op_mod (pe_op op_add (pe_op op_mul (pv 0) pe_int) (pe_op op_fdiv (pv 0) pe_int)) pe_int) (pv 1)))), ?_⟩
    tm_at "rd"
    exact q
theorem ok_cell (D : Def K mg "_law_cell_at" s_l_cell_at ["_law_script", "_law_k"] f fd) (T : Txt K mg cs) : FnOk P w K mg base CX0 1 f fd ["_law_script", "_law_k"] (spCell K) := by
  refine D.F.ok sc_l_cell_at (fun vs H Q E h => ?_) (fun cdv A outer s H vs Q E hr h => ?_)
  · obtain ⟨a, ns, k, rfl, _⟩ := h
    rfl
  · obtain ⟨a, ns, k, rfl, hS, h0, q⟩ := h
    obtain ⟨j, rfl⟩ := Int.eq_ofNat_of_zero_le h0
    refine ⟨_, (pss_cons (ps_if (pt_cmpR op_lt (pv 1) (pe_b call_len_seq T.n_len PySem.boot_len (pa_c (pv 0) pa_nil)) (nomark _)) (pss_one (ps_ret (pe_ix ix_list (pv 0) (pv 1) (fun _ _ => rfl)))) pss_nil)
      (pss_one (ps_ret pe_int))), ?_⟩
    tm_at "rd"
    refine ⟨_, _, rfl, .inl hS, ?_⟩
    tm_at "rd"
    refine iteD (fun hc => ?_) (fun hc => ?_)
    · rw [List.length_map] at hc
      have hj : j < ns.length := by omega
      tm_at "rd"
      refine rd_ixL hS (atI_ints hj) ?_
      have : cellF ns (j : Int) = ns[j] := by simp [cellF, hj]
      rw [← this]
      exact q
    · rw [List.length_map] at hc
      have : cellF ns (j : Int) = 0 := by
        unfold cellF
        rw [Int.toNat_natCast]
        simp [List.getD, List.getElem?_eq_none (by omega : ns.length ≤ j)]
      rw [this] at q
      exact q
theorem ok_whole (D : Def K mg "_law_whole" s_l_whole ["_law_found"] f fd) (T : Txt K mg cs) : FnOk P w K mg base CX0 1 f fd ["_law_found"] spWhole := by
  refine D.F.ok sc_l_whole (fun vs H Q E h => ?_) (fun cdv A outer s H vs Q E hr h => ?_)
  · obtain ⟨i, rfl, _⟩ := h
    rfl
  · obtain ⟨i, rfl, q⟩ := h
    refine ⟨_, (pss_one (ps_ret (pe_and (pe_b call_isinst T.n_isinstance PyProof.Rows.boot_isinstance (pa_c (pv 0) (pa_c (pe_ty T.n_int PyProof.Rows.boot_int) pa_nil))) (pe_one (pe_not (pe_b call_isinst T.n_isinstance PyProof.Rows.boot_isinstance (pa_c (pv 0) (pa_c (pe_ty T.n_bool PyProof.Rows.boot_bool) pa_nil)))))))), ?_⟩
    tm_at "rd"
    refine ⟨_, _, _, _, rfl, .int i, T.k_int_int, ?_⟩
    tm_at "rd"
    refine iteT ?_
    tm_at "rd"
    refine ⟨_, _, _, _, rfl, .int i, T.k_int_bool, ?_⟩
    tm_at "rd"
    exact q
theorem ok_iw (D : Def K mg "is_whole" s_is_whole ["thing"] f fd) (T : Txt K mg cs) : FnOk P w K mg base CX0 1 f fd ["thing"] (spIW K) := by
  refine D.F.ok sc_is_whole (fun vs H Q E h => ?_) (fun cdv A outer s H vs Q E hr h => ?_)
  · rcases h with ⟨i, rfl, _⟩ | ⟨x, rfl, _⟩ <;> rfl
  · rcases h with ⟨i, rfl, q⟩ | ⟨x, rfl, od, q⟩
    all_goals refine ⟨_, (pss_one (ps_ret (pe_and (pe_b call_isinst T.n_isinstance PyProof.Rows.boot_isinstance (pa_c (pv 0) (pa_c (pe_ty T.n_int PyProof.Rows.boot_int) pa_nil))) (pe_one (pe_not (pe_b call_isinst T.n_isinstance PyProof.Rows.boot_isinstance (pa_c (pv 0) (pa_c (pe_ty T.n_bool PyProof.Rows.boot_bool) pa_nil)))))))), ?_⟩
    · tm_at "rd"
      refine ⟨_, _, _, _, rfl, .int i, T.k_int_int, ?_⟩
      tm_at "rd"
      refine iteT ?_
      tm_at "rd"
      refine ⟨_, _, _, _, rfl, .int i, T.k_int_bool, ?_⟩
      tm_at "rd"
      exact q
    · rcases od with ⟨b, rfl⟩ | ⟨t, ty, k1, k2⟩
      · tm_at "rd"
        refine ⟨_, _, _, _, rfl, .bl b, T.k_bool_int, ?_⟩
        tm_at "rd"
        refine iteT ?_
        tm_at "rd"
        refine ⟨_, _, _, _, rfl, .bl b, T.k_bool_bool, ?_⟩
        tm_at "rd"
        exact q
      · tm_at "rd"
        refine ⟨_, _, _, _, rfl, ty, k2, ?_⟩
        tm_at "rd"
        exact iteF q
theorem ok_is (D : Def K mg "is_guest" s_is_guest ["thing"] f fd) (T : Txt K mg cs) : FnOk P w K mg base CX0 2 f fd ["thing"] (spIs K) := by
  obtain ⟨f1, fd1, D_is_whole⟩ := T.d_is_whole
  have G_is_whole : FnOk P w K mg base CX0 1 f1 fd1 _ _ := ok_iw D_is_whole T
  refine D.F.ok sc_is_guest (fun vs H Q E h => ?_) (fun cdv A outer s H vs Q E hr1 h => ?_)
  · rcases h with ⟨i, rfl, _⟩ | ⟨x, rfl, _⟩ <;> rfl
  · rcases h with ⟨i, rfl, q⟩ | ⟨x, rfl, od, q⟩
    all_goals refine ⟨_, (pss_one (ps_ret (pe_and (pe_def D_is_whole G_is_whole hr1 (pa_c (pv 0) pa_nil)) (pe_one (pe_chain op_le op_lt pe_int (pv 0) (pe_op op_pow pe_int pe_int)))))), ?_⟩
    · tm_at "rd"
      refine .inl ⟨i, rfl, ?_⟩
      tm_at "rd"
      refine iteT ?_
      tm_at "rd"
      refine iteD (fun h0 => ?_) (fun h0 => ?_)
      · tm_at "rd"
        rw [p60]
        rw [show decide (0 ≤ i ∧ i < P60) = decide (i < P60) by simp [h0]] at q
        exact q
      · rw [show decide (0 ≤ i ∧ i < P60) = false by simp [h0]] at q
        exact q
    · tm_at "rd"
      refine .inr ⟨x, rfl, od, ?_⟩
      tm_at "rd"
      exact iteF q
theorem ok_check (D : Def K mg "check_guest" s_check_guest ["thing"] f fd) (T : Txt K mg cs) : FnOk P w K mg base (CXr P w) 3 f fd ["thing"] (spCheck K cs.NoGuest) := by
  obtain ⟨f1, fd1, D_is_guest⟩ := T.d_is_guest
  have G_is_guest : FnOk P w K mg base CX0 2 f1 fd1 _ _ := ok_is D_is_guest T
  refine D.F.okX sc_check_guest (fun vs H Q E h => ?_) (fun cdv A outer s H vs Q E hr1 h => ?_)
  · rcases h with ⟨i, rfl, _⟩ | ⟨x, rfl, _⟩ <;> rfl
  · rcases h with ⟨i, rfl, h0, h1, q⟩ | ⟨x, rfl, od, q⟩
    all_goals refine ⟨_, (ssx_one (sx_if (pt_not (pt_val (pe_def D_is_guest G_is_guest hr1 (pa_c (pv 0) pa_nil)))) (ssx_one (sx_raise ownFr_cx rfl T.K_NoGuest (pa_c pe_str pa_nil))) ssx_nil)), ?_⟩
    · tm_at "rd"
      refine .inl ⟨i, rfl, ?_⟩
      rw [decide_eq_true (show 0 ≤ i ∧ i < P60 from ⟨h0, h1⟩)]
      tm_at "rd"
      exact iteF q
    · rcases od with ⟨i, rfl, hn⟩ | od
      · tm_at "rd"
        refine .inl ⟨i, rfl, ?_⟩
        rw [decide_eq_false hn]
        tm_at "rd"
        refine iteT ?_
        tm_at "rd"
        exact ⟨(by show 1 ≤ sizeLine; decide), q⟩
      · tm_at "rd"
        refine .inr ⟨x, rfl, od, ?_⟩
        tm_at "rd"
        refine iteT ?_
        tm_at "rd"
        exact ⟨(by show 1 ≤ sizeLine; decide), q⟩
theorem ok_passed (D : Def K mg "passed" s_passed ["seats", "guest"] f fd) (T : Txt K mg cs) : FnOk P w K mg base CX0 4 f fd ["seats", "guest"] (spPassed K) := by
  obtain ⟨f1, fd1, D_home⟩ := T.d_home
  have G_home : FnOk P w K mg base CX0 3 f1 fd1 _ _ := (ok_home D_home T).mono (by decide)
  obtain ⟨f2, fd2, D_ahead⟩ := T.d_ahead
  have G_ahead : FnOk P w K mg base CX0 3 f2 fd2 _ _ := ok_ahead D_ahead T
  refine D.F.ok sc_passed (fun vs H Q E h => ?_) (fun cdv A outer s H vs Q E hr1 h => ?_)
  · obtain ⟨a, s, g, rfl, _⟩ := h
    rfl
  · obtain ⟨a, t, g, rfl, hS, hne, q⟩ := h
    have nd := sc_passed.nd
    obtain ⟨e, he, hn⟩ := none_mem.mp hne
    have n0 : 0 < t.length := by omega
    refine ⟨_, (pss_cons (ps_set (i := 2) nd rfl (Or.inl rfl) (pe_b call_len_seq T.n_len PySem.boot_len (pa_c (pv 0) pa_nil)))
      (pss_cons (ps_set (i := 3) nd rfl (Or.inl rfl) pe_int)
      (pss_cons (ps_set (i := 4) nd rfl (Or.inl rfl) (pe_def D_home G_home hr1 (pa_c (pv 1) (pa_c (pv 2) pa_nil))))
      (pss_cons (ps_while PassesOwn.never ((pw_and (pt_cmpR op_notN (pe_ix ix_list (pv 0) (pv 4) (fun _ _ => rfl)) pe_non (nomark _)) (pw_and1 (pt_val (pe_def D_ahead G_ahead hr1 (pa_c (pe_ix ix_list (pv 0) (pv 4) (fun _ _ => rfl)) (pa_c (pv 1) (pa_c (pv 4) (pa_c (pv 2) pa_nil))))))))).pt (pss_cons (ps_aug (i := 3) nd rfl (Or.inl rfl) pe_int ip_add)
      (pss_one (ps_set (i := 4) nd rfl (Or.inl rfl) (pe_op op_mod (pe_op op_add (pv 4) pe_int) (pv 2))))))
      (pss_one (ps_ret (pv 3))))))), ?_⟩
    tm_at "rd"
    refine ⟨_, _, rfl, .inl hS, ?_⟩
    rw [svs_len]
    tm_at "rd"
    refine ⟨fun m σ H' => H = H' ∧ ∃ p c k : Nat, σ = [some (.ref a), some (.int g), some (.int (t.length : Int)), some (.int (c : Int)), some (.int (p : Int))] ∧ p < t.length ∧ dist t.length p e = m ∧ m < k ∧ (((hm t.length g : Nat) : Int) + (c : Int)) % (t.length : Int) = (p : Int) ∧ look t.length (hm t.length) t.length t g (hm t.length g) 0 = look t.length (hm t.length) k t g p c,
      ⟨_, rfl, hm t.length g, 0, t.length, rfl, hm_lt n0 g, rfl, dist_lt (hm_lt n0 g) he, ?_, rfl⟩, ?_⟩
    · have := hm_lt n0 g
      rw [Int.natCast_zero, Int.add_zero]
      exact Int.emod_eq_of_lt (by omega) (by omega)
    · rintro m σ H' ⟨rfl, p, c, k, rfl, hp, hd, hk, hpos, hL⟩
      obtain ⟨k, rfl⟩ : ∃ k', k = k' + 1 := ⟨k - 1, by omega⟩
      tm_at "rd"
      refine rd_ixL hS (svs_at hp) ?_
      tm_at "rd"
      cases hs : sat t p with
      | none =>
        refine iteN (fun z => absurd rfl z) (fun _ => iteF ?_)
        tm_at "rd"
        refine q c p hp hpos ?_
        rw [hL, look_none hs, if_neg (by rw [hs]; exact fun z => nomatch z)]
      | some y =>
        rw [sv_some]
        refine iteN (fun _ => ?_) (fun z => nomatch z)
        tm_at "rd"
        refine rd_ixL hS (svs_at hp) ?_
        rw [hs, sv_some]
        tm_at "rd"
        refine iteD (fun ha => ?_) (fun ha => ?_)
        · have hy : y ≠ g := ahead_ne ha
          have hpe : p ≠ e := fun z => by rw [z, hn] at hs; cases hs
          have hstep := dist_to_nxt hp he hpe
          refine ⟨_, fun _ _ h => h, ?_⟩
          tm_at "rd"
          rw [on_eq hp]
          refine ⟨dist t.length (nxt t.length p) e, by omega, rfl, nxt t.length p, c + 1, k, ?_, nxt_lt hp, rfl, by omega, ?_, ?_⟩
          · rw [Int.natCast_add]
            rfl
          · rw [← on_eq hp, ← hpos, Int.emod_add_emod, Int.natCast_add, Int.add_assoc]
            rfl
          · rw [hL, look_on hs hy ha]
        · tm_at "rd"
          refine q c p hp hpos ?_
          by_cases hy : y = g
          · subst hy
            rw [hL, look_here hs, if_pos hs]
          · rw [hL, look_end hs hy ha, if_neg (by rw [hs]; exact fun z => hy (Option.some.inj z))]
theorem ok_place (D : Def K mg "place_of" s_place_of ["seats", "guest"] f fd) (T : Txt K mg cs) : FnOk P w K mg base (CXr P w) 5 f fd ["seats", "guest"] (spPlace K cs.NoGuest) := by
  obtain ⟨f1, fd1, D_home⟩ := T.d_home
  have G_home : FnOk P w K mg base CX0 4 f1 fd1 _ _ := (ok_home D_home T).mono (by decide)
  obtain ⟨f2, fd2, D_passed⟩ := T.d_passed
  have G_passed : FnOk P w K mg base CX0 4 f2 fd2 _ _ := ok_passed D_passed T
  obtain ⟨f3, fd3, D_check_guest⟩ := T.d_check_guest
  have G_check_guest : FnOk P w K mg base (CXr P w) 4 f3 fd3 _ _ := (ok_check D_check_guest T).mono (by decide)
  refine D.F.okX sc_place_of (fun vs H Q E h => ?_) (fun cdv A outer s H vs Q E hr1 h => ?_)
  · rcases h with ⟨a, t, g, rfl, _⟩ | ⟨a, x, rfl, _⟩ <;> rfl
  · have nd := sc_place_of.nd
    rcases h with ⟨a, t, g, rfl, hS, hne, g0, g1, q⟩ | ⟨a, x, rfl, bad, q⟩
    all_goals refine ⟨_, (ssx_cons (sx_expr (pex_def ownFr_cx D_check_guest G_check_guest hr1 (pa_c (pv 1) pa_nil)))
      (ssx_cons (sx (ps_set (i := 2) nd rfl (Or.inl rfl) (pe_b call_len_seq T.n_len PySem.boot_len (pa_c (pv 0) pa_nil))))
      (ssx_cons (sx (ps_set (i := 3) nd rfl (Or.inl rfl) (pe_op op_mod (pe_op op_add (pe_def D_home G_home hr1 (pa_c (pv 1) (pa_c (pv 2) pa_nil))) (pe_def D_passed G_passed hr1 (pa_c (pv 0) (pa_c (pv 1) pa_nil)))) (pv 2))))
      (ssx_one (sx (ps_ret (pe_ifExp (pt_cmpR op_eq (pe_ix ix_list (pv 0) (pv 3) (fun _ _ => rfl)) (pv 1) (nomark _)) (pv 3) pe_non))))))), ?_⟩
    · have n0 : 0 < t.length := List.length_pos_of_mem hne
      tm_at "rd"
      refine .inl ⟨g, rfl, g0, g1, ?_⟩
      tm_at "rd"
      refine ⟨_, _, rfl, .inl hS, ?_⟩
      rw [svs_len]
      tm_at "rd"
      refine ⟨a, t, g, rfl, hS, hne, fun c p hp hpos hL => ?_⟩
      tm_at "rd"
      rw [hpos]
      refine rd_ixL hS (svs_at hp) ?_
      tm_at "rd"
      have e : placeV t g = if sat t p = some g then .int (p : Int) else .non := by
        unfold placeV
        rw [hL]
        by_cases z : sat t p = some g
        · rw [if_pos z, if_pos z]
        · rw [if_neg z, if_neg z]
      rw [e] at q
      cases hs : sat t p with
      | none =>
        rw [hs] at q
        refine ⟨rfl, ?_⟩
        tm_at "rd"
        refine iteDF (fun z => nomatch z) ?_
        tm_at "rd"
        rw [if_neg (fun z => nomatch z)] at q
        exact q
      | some y =>
        rw [hs] at q
        rw [sv_some]
        tm_at "rd"
        refine iteD (fun z => ?_) (fun z => ?_)
        · tm_at "rd"
          rw [if_pos (by rw [z])] at q
          exact q
        · tm_at "rd"
          rw [if_neg (fun h => z (Option.some.inj h))] at q
          exact q
    · tm_at "rd"
      exact .inr ⟨x, rfl, bad, q⟩
theorem ok_put (D : Def K mg "put" s_put ["seats", "guest"] f fd) (T : Txt K mg cs) : FnOk P w K mg base CX0 4 f fd ["seats", "guest"] spPut := by
  obtain ⟨f1, fd1, D_home⟩ := T.d_home
  have G_home : FnOk P w K mg base CX0 3 f1 fd1 _ _ := (ok_home D_home T).mono (by decide)
  obtain ⟨f2, fd2, D_ahead⟩ := T.d_ahead
  have G_ahead : FnOk P w K mg base CX0 3 f2 fd2 _ _ := ok_ahead D_ahead T
  refine D.F.ok sc_put (fun vs H Q E h => ?_) (fun cdv A outer s H vs Q E hr1 h => ?_)
  · obtain ⟨a, s, x, rfl, _⟩ := h
    rfl
  · obtain ⟨a, t, x, rfl, hH, ⟨e, he, hn⟩, q⟩ := h
    have nd := sc_put.nd
    refine ⟨_, (pss_cons (ps_set (i := 2) nd rfl (Or.inl rfl) (pe_b call_len_seq T.n_len PySem.boot_len (pa_c (pv 0) pa_nil)))
      (pss_cons (ps_set (i := 3) nd rfl (Or.inl rfl) (pv 1))
      (pss_cons (ps_set (i := 4) nd rfl (Or.inl rfl) (pe_def D_home G_home hr1 (pa_c (pv 3) (pa_c (pv 2) pa_nil))))
      (pss_cons (ps_while PassesOwn.never (pt_cmpR op_notN (pe_ix ix_list (pv 0) (pv 4) (fun _ _ => rfl)) pe_non (nomark _)) (pss_cons (ps_set (i := 5) nd rfl (Or.inl rfl) (pe_ix ix_list (pv 0) (pv 4) (fun _ _ => rfl)))
      (pss_cons (ps_join (ps_if (pt_val (pe_def D_ahead G_ahead hr1 (pa_c (pv 3) (pa_c (pv 5) (pa_c (pv 4) (pa_c (pv 2) pa_nil)))))) (pss_cons (ps_asg (pv 3) (pg_sub (pv 0) (pv 4) set_list))
      (pss_one (ps_set (i := 3) nd rfl (Or.inl rfl) (pv 5)))) pss_nil))
      (pss_one (ps_set (i := 4) nd rfl (Or.inl rfl) (pe_op op_mod (pe_op op_add (pv 4) pe_int) (pv 2)))))))
      (pss_one (ps_asg (pv 3) (pg_sub (pv 0) (pv 4) set_list))))))), ?_⟩
    have n0 : 0 < t.length := by omega
    tm_at "rd"
    refine ⟨_, _, rfl, .inl (SqL.of hH), ?_⟩
    rw [svs_len]
    tm_at "rd"
    refine ⟨fun m σ H' => ∃ (s' : Seats) (x' : Int) (p' k : Nat) (v : Option V), σ = [some (.ref a), some (.int x), some (.int (t.length : Int)), some (.int x'), some (.int (p' : Int)), v] ∧ H' a = some (.lst (svs s')) ∧ (∀ o, upd H' a o = upd H a o) ∧ s'.length = t.length ∧ p' < t.length ∧ sat s' e = none ∧ dist t.length p' e = m ∧ m < k ∧
      put t.length (hm t.length) k s' x' p' = comes t.length (hm t.length) t x, ⟨_, t, x, hm t.length x, t.length, _, rfl, hH, fun _ => rfl, rfl, hm_lt n0 x, hn, rfl, dist_lt (hm_lt n0 x) he, rfl⟩, ?_⟩
    rintro m σ H' ⟨s', x', p', k, v, rfl, hH', up, hl, hp, hn', hd, hk, hR⟩
    obtain ⟨k, rfl⟩ : ∃ k', k = k' + 1 := ⟨k - 1, by omega⟩
    tm_at "rd"
    refine rd_ixL (SqL.of hH') (svs_at (by omega)) ?_
    tm_at "rd"
    cases hs : sat s' p' with
    | none =>
      refine iteN (fun z => absurd rfl z) (fun _ => ?_)
      tm_at "rd"
      refine rd_setL hH' (ixN_nat (by rw [svs_len]; omega)) ?_
      rw [up, svs_setI, ← put_none (n := t.length) (h := hm t.length) (k := k) hs, hR]
      exact q
    | some y =>
      have hpe : p' ≠ e := fun z => by rw [z, hn'] at hs; cases hs
      have hstep := dist_to_nxt hp he hpe
      refine iteN (fun _ => ?_) (fun z => nomatch z)
      refine ⟨_, fun _ _ h => h, ?_⟩
      tm_at "rd"
      refine rd_ixL (SqL.of hH') (svs_at (by omega)) ?_
      rw [hs, sv_some]
      tm_at "rd"
      refine rd_join (fun σ H2 => ∃ (s2 : Seats) (x2 : Int) (v : Option V), σ = [some (.ref a), some (.int x), some (.int (t.length : Int)), some (.int x2), some (.int (p' : Int)), v] ∧ H2 a = some (.lst (svs s2)) ∧ (∀ o, upd H2 a o = upd H a o) ∧ s2.length = t.length ∧ sat s2 e = none ∧ put t.length (hm t.length) k s2 x2 (nxt t.length p') = comes t.length (hm t.length) t x) ?_ ?_
      · tm_at "rd"
        refine iteD (fun ha => ?_) (fun ha => ?_)
        · tm_at "rd"
          refine rd_setL hH' (ixN_nat (by rw [svs_len]; omega)) ?_
          rw [svs_setI]
          tm_at "rd"
          refine ⟨_, _, _, rfl, upd_same, fun o => by rw [upd_upd, up], by rw [List.length_set]; exact hl, ?_, ?_⟩
          · rw [sat_ne (by omega) (Ne.symm hpe)]
            exact hn'
          · rw [← put_yes hs ha]
            exact hR
        · tm_at "rd"
          exact ⟨_, _, _, rfl, hH', up, hl, hn', by rw [← put_no hs ha]; exact hR⟩
      · rintro σ2 H2 ⟨s2, x2, v2, rfl, hH2, up2, hl2, hn2, hR2⟩
        tm_at "rd"
        rw [on_eq hp]
        exact ⟨dist t.length (nxt t.length p') e, by omega, s2, x2, nxt t.length p', k, _, rfl, hH2, up2, hl2, nxt_lt hp, hn2, rfl, by omega, hR2⟩
theorem ok_seat_in (D : Def K mg "seat_in" s_seat_in ["seats", "guest"] f fd) (T : Txt K mg cs) : FnOk P w K mg base (CXr P w) 6 f fd ["seats", "guest"] (spSeatIn K cs.NoGuest cs.Twice cs.Full) := by
  obtain ⟨f1, fd1, D_place_of⟩ := T.d_place_of
  have G_place_of : FnOk P w K mg base (CXr P w) 5 f1 fd1 _ _ := ok_place D_place_of T
  obtain ⟨f2, fd2, D_put⟩ := T.d_put
  have G_put : FnOk P w K mg base CX0 5 f2 fd2 _ _ := (ok_put D_put T).mono (by decide)
  refine D.F.okX sc_seat_in (fun vs H Q E h => ?_) (fun cdv A outer s H vs Q E hr1 h => ?_)
  · rcases h with ⟨a, t, g, rfl, _⟩ | ⟨a, x, rfl, _⟩ <;> rfl
  · have nd := sc_seat_in.nd
    rcases h with ⟨a, t, g, rfl, hS, St, hl, g0, g1, q1, q2, q3⟩ | ⟨a, x, rfl, bad, q⟩
    all_goals refine ⟨_, (ssx_cons (sx_ifX (ptx_notN (pex_def ownFr_cx D_place_of G_place_of hr1 (pa_c (pv 0) (pa_c (pv 1) pa_nil)))) (ssx_one (sx_raise ownFr_cx rfl T.K_Twice (pa_c pe_str pa_nil))) ssx_nil)
      (ssx_cons (sx_if (pt_cmpR op_lt (pe_bm PySem.F.plainAttrs_list PySem.F.slot_list_count PySem.F.type_list_count mt_count (pv 0) (pa_c pe_non pa_nil)) pe_int (nomark _)) (ssx_one (sx_raise ownFr_cx rfl T.K_Full (pa_c pe_str pa_nil))) ssx_nil)
      (ssx_cons (sx (ps_set (i := 2) nd rfl (Or.inl rfl) (pe_t call_list_of T.n_list PyProof.Rows.boot_list (pa_c (pv 0) pa_nil))))
      (ssx_cons (sx (ps_expr (pe_def D_put G_put hr1 (pa_c (pv 2) (pa_c (pv 1) pa_nil)))))
      (ssx_one (sx (ps_ret (pv 2)))))))), ?_⟩
    · tm_at "rd"
      refine .inl ⟨a, t, g, rfl, hS, settled_none St, g0, g1, ?_⟩
      by_cases hg : g ∈ who t
      · obtain ⟨p, _, _, e⟩ := place_in St hg
        rw [e]
        refine iteN (fun _ => ?_) (fun z => nomatch z)
        tm_at "rd"
        exact ⟨(by show 1 ≤ sizeLine; decide), q1 hg⟩
      · rw [place_out St hg]
        refine iteN (fun z => absurd rfl z) (fun _ => ?_)
        tm_at "rd"
        refine ⟨rd_tyL rfl hS, ?_⟩
        tm_at "rd"
        refine ⟨a, _, _, rfl, rfl, hS, svs_flat _, rfl, ?_⟩
        rw [count_none]
        have hc := who_len t
        tm_at "rd"
        refine iteD (fun hlt => ?_) (fun hge => ?_)
        · tm_at "rd"
          exact ⟨(by show 1 ≤ sizeLine; decide), q2 hg (by omega)⟩
        · tm_at "rd"
          refine ⟨_, _, rfl, .inl hS, fun l hl0 => ?_⟩
          tm_at "rd"
          refine ⟨l, t, g, rfl, upd_same, St.empty, ?_⟩
          rw [upd_upd]
          tm_at "rd"
          exact q3 hg (by omega) l hl0
    · tm_at "rd"
      exact .inr ⟨a, x, rfl, bad, q⟩
theorem ok_seat_out (D : Def K mg "seat_out" s_seat_out ["seats", "guest"] f fd) (T : Txt K mg cs) : FnOk P w K mg base (CXr P w) 6 f fd ["seats", "guest"] (spSeatOut K cs.NoGuest cs.Away) := by
  obtain ⟨f1, fd1, D_place_of⟩ := T.d_place_of
  have G_place_of : FnOk P w K mg base (CXr P w) 5 f1 fd1 _ _ := ok_place D_place_of T
  obtain ⟨f2, fd2, D_carried⟩ := T.d_carried
  have G_carried : FnOk P w K mg base CX0 5 f2 fd2 _ _ := (ok_carried D_carried T).mono (by decide)
  refine D.F.okX sc_seat_out (fun vs H Q E h => ?_) (fun cdv A outer s H vs Q E hr1 h => ?_)
  · rcases h with ⟨a, t, g, rfl, _⟩ | ⟨a, x, rfl, _⟩ <;> rfl
  · have nd := sc_seat_out.nd
    rcases h with ⟨a, t, g, rfl, hS, St, h2, hl, g0, g1, q1, q2⟩ | ⟨a, x, rfl, bad, q⟩
    all_goals refine ⟨_, (ssx_cons (sx_set (i := 2) nd rfl (Or.inl rfl) (pex_def ownFr_cx D_place_of G_place_of hr1 (pa_c (pv 0) (pa_c (pv 1) pa_nil))))
      (ssx_cons (sx_if (pt_cmpR op_isN (pv 2) pe_non (nomark _)) (ssx_one (sx_raise ownFr_cx rfl T.K_Away (pa_c pe_str pa_nil))) ssx_nil)
      (ssx_cons (sx (ps_set (i := 3) nd rfl (Or.inl rfl) (pe_b call_len_seq T.n_len PySem.boot_len (pa_c (pv 0) pa_nil))))
      (ssx_cons (sx (ps_set (i := 4) nd rfl (Or.inl rfl) (pe_t call_list_of T.n_list PyProof.Rows.boot_list (pa_c (pv 0) pa_nil))))
      (ssx_cons (sx (ps_set (i := 5) nd rfl (Or.inl rfl) (pe_op op_mod (pe_op op_add (pv 2) pe_int) (pv 3))))
      (ssx_cons (sx (ps_while PassesOwn.never ((pw_and (pt_cmpR op_notN (pe_ix ix_list (pv 4) (pv 5) (fun _ _ => rfl)) pe_non (nomark _)) (pw_and1 (pt_cmpR op_gt (pe_def D_carried G_carried hr1 (pa_c (pe_ix ix_list (pv 4) (pv 5) (fun _ _ => rfl)) (pa_c (pv 5) (pa_c (pv 3) pa_nil)))) pe_int (nomark _))))).pt (pss_cons (ps_asg (pe_ix ix_list (pv 4) (pv 5) (fun _ _ => rfl)) (pg_sub (pv 4) (pv 2) set_list))
      (pss_cons (ps_set (i := 2) nd rfl (Or.inl rfl) (pv 5))
      (pss_one (ps_set (i := 5) nd rfl (Or.inl rfl) (pe_op op_mod (pe_op op_add (pv 5) pe_int) (pv 3))))))))
      (ssx_cons (sx (ps_asg pe_non (pg_sub (pv 4) (pv 2) set_list)))
      (ssx_one (sx (ps_ret (pv 4))))))))))), ?_⟩
    · tm_at "rd"
      refine .inl ⟨a, t, g, rfl, hS, settled_none St, g0, g1, ?_⟩
      by_cases hg : g ∈ who t
      · obtain ⟨p, hp, hpg, e⟩ := place_in St hg
        rw [e]
        tm_at "rd"
        refine iteDF (fun z => nomatch z) ?_
        tm_at "rd"
        refine ⟨_, _, rfl, .inl hS, ?_⟩
        rw [svs_len]
        tm_at "rd"
        refine ⟨_, _, rfl, .inl hS, fun l hl0 => ?_⟩
        tm_at "rd"
        rw [on_eq hp]
        obtain ⟨e, he, hn⟩ := St.empty
        have hh : ∀ g, hm t.length g < t.length := fun g => hm_lt (by omega) g
        refine ⟨fun m σ H' => ∃ (s' : Seats) (p' k : Nat), σ = [some (.ref a), some (.int g), some (.int (p' : Int)), some (.int (t.length : Int)), some (.ref l), some (.int ((nxt t.length p' : Nat) : Int))] ∧ H' l = some (.lst (svs s')) ∧ (∀ o, upd H' l o = upd H l o) ∧ s'.length = t.length ∧ p' < t.length ∧ p' ≠ e ∧ sat s' e = none ∧ dist t.length p' e = m ∧ m < k ∧
          shift t.length (hm t.length) k s' p' = shift t.length (hm t.length) t.length t p, ⟨_, t, p, t.length, rfl, upd_same, fun o => upd_upd, rfl, hp, (fun z => by rw [z, hn] at hpg; cases hpg), hn, rfl, dist_lt hp he, rfl⟩, ?_⟩
        rintro m σ H' ⟨s', p', k, rfl, hH', up, hl', hp', hpe, hn', hd, hk, hR⟩
        obtain ⟨k, rfl⟩ : ∃ k', k = k' + 1 := ⟨k - 1, by omega⟩
        have hx := nxt_lt hp'
        have hstep := dist_to_nxt hp' he hpe
        have fin : shift t.length (hm t.length) (k + 1) s' p' = s'.set p' none → Q (.ref l) (upd H' l (.lst (svs (s'.set p' none)))) := fun z => by
          rw [up, ← z, hR]
          refine q2 hg l _ hl0 ?_ fun R hw => (goes_ok h2 hh St hp hpg hw).2
          obtain ⟨R, hw, _⟩ := who_some (x := 0) hp hpg
          exact (goes_ok h2 hh St hp hpg hw).1
        tm_at "rd"
        refine rd_ixL (SqL.of hH') (svs_at (by omega)) ?_
        tm_at "rd"
        cases hs : sat s' (nxt t.length p') with
        | none =>
          refine iteN (fun z => absurd rfl z) (fun _ => iteF ?_)
          tm_at "rd"
          refine rd_setL hH' (ixN_nat (by rw [svs_len]; omega)) ?_
          rw [svs_setN]
          tm_at "rd"
          exact fin (by rw [shift, hs])
        | some y =>
          rw [sv_some]
          refine iteN (fun _ => ?_) (fun z => nomatch z)
          tm_at "rd"
          refine rd_ixL (SqL.of hH') (svs_at (by omega)) ?_
          rw [hs, sv_some]
          tm_at "rd"
          refine iteD (fun hc => ?_) (fun hc => ?_)
          · refine ⟨_, fun _ _ h => h, ?_⟩
            tm_at "rd"
            refine rd_ixL (SqL.of hH') (svs_at (by omega)) ?_
            rw [hs, sv_some]
            tm_at "rd"
            refine rd_setL hH' (ixN_nat (by rw [svs_len]; omega)) ?_
            rw [svs_setI]
            tm_at "rd"
            rw [on_eq hx]
            have hne : hm t.length y ≠ nxt t.length p' := fun z => by rw [z, dist_self] at hc; exact absurd hc (by decide)
            have hxe : nxt t.length p' ≠ e := fun z => by rw [z, hn'] at hs; cases hs
            refine ⟨dist t.length (nxt t.length p') e, by omega, s'.set p' (some y), nxt t.length p', k, rfl, upd_same, fun o => by rw [upd_upd, up], by rw [List.length_set]; exact hl', hx, hxe, by rw [sat_ne (by omega) (Ne.symm hpe)]; exact hn', rfl, by omega, ?_⟩
            rw [← hR, shift, hs]
            exact (if_neg hne).symm
          · tm_at "rd"
            refine rd_setL hH' (ixN_nat (by rw [svs_len]; omega)) ?_
            rw [svs_setN]
            tm_at "rd"
            have he1 : hm t.length y = nxt t.length p' := dist_zero (hh y) hx (by omega)
            refine fin ?_
            rw [shift, hs]
            exact if_pos he1
      · rw [place_out St hg]
        tm_at "rd"
        refine iteDT rfl ?_
        tm_at "rd"
        exact ⟨(by show 1 ≤ sizeLine; decide), q1 hg⟩
    · tm_at "rd"
      exact .inr ⟨a, x, rfl, bad, q⟩
theorem ok_check_list (D : Def K mg "check_list" s_check_list ["guests", "many"] f fd) (T : Txt K mg cs) : FnOk P w K mg base (CXr P w) 5 f fd ["guests", "many"] (spCheckL K cs.NoGuest cs.Twice cs.Full) := by
  obtain ⟨f1, fd1, D_check_guest⟩ := T.d_check_guest
  have G_check_guest : FnOk P w K mg base (CXr P w) 4 f1 fd1 _ _ := (ok_check D_check_guest T).mono (by decide)
  refine D.F.okX sc_check_list (fun vs H Q E h => ?_) (fun cdv A outer s H vs Q E hr1 h => ?_)
  · rcases h with ⟨a, t, g, rfl, _⟩ | ⟨a, t, g, rfl, _⟩ <;> rfl
  · have nd := sc_check_list.nd
    rcases h with ⟨a, xs, n, rfl, hS, ⟨⟨x0, hx0, bad⟩, hall⟩, q⟩ | ⟨a, ds, n, rfl, hS, hg, hl, q⟩
    all_goals refine ⟨_, (ssx_cons (sx_for rfl (pi_list (pv 0)) (pg_name (i := 2) nd rfl (Or.inl rfl)) (ssx_one (sx_expr (pex_def ownFr_cx D_check_guest G_check_guest hr1 (pa_c (pv 2) pa_nil)))))
      (ssx_cons (sx_if (pt_cmpR op_lt (pe_b call_lenS T.n_len PySem.boot_len (pa_c (pe_t (call_setI rfl) T.n_set PyProof.Rows.boot_set (pa_c (pv 0) pa_nil)) pa_nil)) (pe_b call_len_seq T.n_len PySem.boot_len (pa_c (pv 0) pa_nil)) (nomark _)) (ssx_one (sx_raise ownFr_cx rfl T.K_Twice (pa_c pe_str pa_nil))) ssx_nil)
      (ssx_one (sx_if (pt_cmpR op_ge (pe_b call_len_seq T.n_len PySem.boot_len (pa_c (pv 0) pa_nil)) (pv 1) (nomark _)) (ssx_one (sx_raise ownFr_cx rfl T.K_Full (pa_c pe_str pa_nil))) ssx_nil)))), ?_⟩
    · tm_at "rd"
      obtain ⟨j, hj⟩ := List.mem_iff_getElem?.mp hx0
      refine ⟨a, rfl, ⟨_, hS⟩, for_listX (xs := xs) (fun i σ H' => H = H' ∧ i ≤ j ∧ ∃ v2, σ = [some (.ref a), some (.int n), v2]) ⟨rfl, Nat.zero_le _, _, rfl⟩ (fun i σ H' _ h => by obtain ⟨rfl, _⟩ := h; exact hS) ?_ ?_⟩
      · rintro i x σ H' hx ⟨rfl, hij, v2, rfl⟩
        tm_at "rd"
        by_cases e : i = j
        · rw [e, hj] at hx
          cases hx
          exact .inr ⟨x0, rfl, bad, q⟩
        · rcases hall x (List.mem_of_getElem? hx) with ⟨g, rfl, g0, g1⟩ | hb
          · refine .inl ⟨g, rfl, g0, g1, ?_⟩
            tm_at "rd"
            exact ⟨rfl, by omega, _, rfl⟩
          · exact .inr ⟨x, rfl, hb, q⟩
      · rintro σ H' ⟨rfl, hij, v2, rfl⟩
        have := (List.getElem?_eq_some_iff.mp hj).1
        omega
    · tm_at "rd"
      refine ⟨a, rfl, ⟨_, hS⟩, for_listX (xs := ds.map V.int) (fun i σ H' => H = H' ∧ ∃ v2, σ = [some (.ref a), some (.int n), v2]) ⟨rfl, _, rfl⟩ (fun i σ H' _ h => by obtain ⟨rfl, _⟩ := h; exact hS) ?_ ?_⟩
      · rintro i x σ H' hx ⟨rfl, v2, rfl⟩
        obtain ⟨g, hgm, rfl⟩ := List.mem_map.mp (List.mem_of_getElem? hx)
        tm_at "rd"
        refine .inl ⟨g, rfl, (hg g hgm).1, (hg g hgm).2, ?_⟩
        tm_at "rd"
        exact ⟨rfl, _, rfl⟩
      · rintro σ H' ⟨rfl, v2, rfl⟩
        tm_at "rd"
        refine ⟨a, ds, rfl, hS, hl, fun l S m hl0 hm hle => ?_⟩
        have sm : Same H (upd H l (.set S m)) := Same.new (Same.refl H) hl0
        tm_at "rd"
        refine ⟨l, S, m, rfl, upd_same, ?_⟩
        tm_at "rd"
        refine ⟨_, _, rfl, .inl (sm.seq hS), ?_⟩
        rw [List.length_map]
        tm_at "rd"
        obtain ⟨q1, q2, q3⟩ := q _ sm
        refine iteD (fun hlt => ?_) (fun hge => ?_)
        · tm_at "rd"
          exact ⟨(by show 1 ≤ sizeLine; decide), q1 fun z => by have := hm.mpr z; omega⟩
        · have hnd : ds.Nodup := hm.mp (by omega)
          tm_at "rd"
          refine ⟨_, _, rfl, .inl (sm.seq hS), ?_⟩
          rw [List.length_map]
          tm_at "rd"
          refine iteD (fun hlt => ?_) (fun hge => ?_)
          · tm_at "rd"
            exact ⟨(by show 1 ≤ sizeLine; decide), q2 hnd (by omega)⟩
          · tm_at "rd"
            exact q3 hnd (by omega)
theorem rep_svs (n : Nat) : (List.replicate n [V.non]).flatten = svs (List.replicate n none) := by
  induction n with
  | zero => rfl
  | succ n ih =>
    rw [List.replicate_succ, List.flatten_cons, ih]
    rfl
theorem ok_seated (D : Def K mg "seated" s_seated ["guests", "many"] f fd) (T : Txt K mg cs) : FnOk P w K mg base (CXr P w) 6 f fd ["guests", "many"] (spSeatedF K cs.NoGuest cs.Twice cs.Full) := by
  obtain ⟨f1, fd1, D_check_list⟩ := T.d_check_list
  have G_check_list : FnOk P w K mg base (CXr P w) 5 f1 fd1 _ _ := ok_check_list D_check_list T
  obtain ⟨f2, fd2, D_put⟩ := T.d_put
  have G_put : FnOk P w K mg base CX0 5 f2 fd2 _ _ := (ok_put D_put T).mono (by decide)
  refine D.F.okX sc_seated (fun vs H Q E h => ?_) (fun cdv A outer s H vs Q E hr1 h => ?_)
  · rcases h with ⟨a, t, g, rfl, _⟩ | ⟨a, t, g, rfl, _⟩ <;> rfl
  · have nd := sc_seated.nd
    rcases h with ⟨a, xs, n, rfl, hS, hB, q⟩ | ⟨a, ds, n, rfl, hS, hg, hl, n2, n3, q⟩
    all_goals refine ⟨_, (ssx_cons (sx_expr (pex_def ownFr_cx D_check_list G_check_list hr1 (pa_c (pv 0) (pa_c (pv 1) pa_nil))))
      (ssx_cons (sx (ps_set (i := 2) nd rfl (Or.inl rfl) (pe_op op_rep (pe_lst (pa_c pe_non pa_nil)) (pv 1))))
      (ssx_cons (sx (ps_for PassesOwn.never rfl (pi_list (pv 0)) (pg_name (i := 3) nd rfl (Or.inl rfl)) (pss_one (ps_expr (pe_def D_put G_put hr1 (pa_c (pv 2) (pa_c (pv 3) pa_nil)))))))
      (ssx_one (sx (ps_ret (pv 2))))))), ?_⟩
    · tm_at "rd"
      exact .inl ⟨a, xs, n, rfl, hS, hB, q⟩
    · tm_at "rd"
      refine .inr ⟨a, ds, n, rfl, hS, hg, hl, fun H1 s1 => ⟨fun z => (q H1 s1).1 z, fun z1 z2 => (q H1 s1).2.1 z1 (by omega), fun hnd hlt => ?_⟩⟩
      have n0 : 0 < n := by omega
      have hh : ∀ g, hm n g < n := fun g => hm_lt n0 g
      tm_at "rd"
      refine ⟨(by show 1 ≤ sizeLine; decide), fun l0 hl0 => ?_⟩
      tm_at "rd"
      have s3 : Same H1 (upd H1 l0 (.lst [.non])) := Same.new (Same.refl H1) hl0
      refine rd_rep upd_same (by omega) (by omega) (Nat.le_trans (show 1 * (n : Int).toNat ≤ 1024 by rw [Int.toNat_natCast]; omega) (by decide)) fun ls hls => ?_
      rw [Int.toNat_natCast, rep_svs]
      generalize upd H1 l0 (.lst [.non]) = H3 at s3 hls
      have emptyS : Settled n (hm n) (List.replicate n none) := ⟨by simp, loc_rep, by rw [who_rep]; exact n0⟩
      have s4 : Same H3 (upd H3 ls (.lst (svs (List.replicate n none)))) := Same.new (Same.refl H3) hls
      have hs4 : upd H3 ls (.lst (svs (List.replicate n none))) ls = some (.lst (svs (List.replicate n none))) := upd_same
      generalize upd H3 ls (.lst (svs (List.replicate n none))) = H4 at s4 hs4
      tm_at "rd"
      have s03 : Same H H3 := s1.trans s3
      refine ⟨a, rfl, ⟨_, s4.seq (s03.seq hS)⟩, for_list (xs := ds.map V.int) (fun i σ H' => ∃ (t : Seats) (v3 : Option V), σ = [some (.ref a), some (.int (n : Int)), some (.ref ls), v3] ∧ Same H3 H' ∧ H' ls = some (.lst (svs t)) ∧ Settled n (hm n) t ∧ (who t).Perm (ds.take i))
        ⟨List.replicate n none, _, rfl, s4, hs4, emptyS, by rw [who_rep, List.take_zero]⟩ (fun i σ H' _ h => by obtain ⟨_, _, _, sm, _⟩ := h; exact sm.seq (s03.seq hS)) ?_ ?_⟩
      · rintro i x σ H' hx ⟨t, v5, rfl, sm, hsl, St, hperm⟩
        rw [List.getElem?_map] at hx
        obtain ⟨g, hgi, rfl⟩ := Option.map_eq_some_iff.mp hx
        have hil := (List.getElem?_eq_some_iff.mp hgi).1
        have tl : t.length = n := St.len
        have hng : g ∉ who t := fun z => not_in_take hnd hgi (hperm.mem_iff.mp z)
        have hroom : (who t).length + 1 < n := by
          rw [hperm.length_eq, List.length_take]
          omega
        have hc := comes_ok n2 hh St hng
        tm_at "rd"
        refine ⟨ls, t, g, rfl, hsl, by rw [tl]; exact St.empty, ?_⟩
        tm_at "rd"
        rw [tl]
        refine ⟨comes n (hm n) t g, _, rfl, fun bb u e => ?_, upd_same, comes_settled n2 hh St hng hroom, ?_⟩
        · have ne : bb ≠ ls := fun z => by rw [z, hls] at e; cases e
          rw [upd_ne ne]
          exact sm _ _ e
        · rw [take_succ_get hgi]
          exact hc.2.2.trans ((List.Perm.cons g hperm).trans (List.perm_append_comm (l₁ := [g])))
      · rintro σ H5 ⟨t, v5, rfl, sm5, hs5, St, hperm⟩
        rw [List.length_map, List.take_length] at hperm
        tm_at "rd"
        exact (q H5 (s03.trans sm5)).2.2 hnd (by omega) ls t (s03.free hls) hs5 St hperm
theorem ok_room (D : Def K mg "room" s_room ["count"] f fd) (T : Txt K mg cs) : FnOk P w K mg base CX0 1 f fd ["count"] spRoom := by
  refine D.F.ok sc_room (fun vs H Q E h => ?_) (fun cdv A outer s H vs Q E hr h => ?_)
  · obtain ⟨c, rfl, _⟩ := h
    rfl
  · obtain ⟨c, rfl, h1, k⟩ := h
    obtain ⟨hA, g_HOUSE_RINGS, tp⟩ := T.g_HOUSE_RINGS
    have nd := sc_room.nd
    refine ⟨_, (pss_cons (ps_for PassesOwn.never rfl (pi_tup (pe_gref g_HOUSE_RINGS)) (pg_name (i := 1) nd rfl (Or.inl rfl)) (pss_one (ps_if (pt_cmpR op_le (pe_op op_mul pe_int (pv 0)) (pe_op op_mul pe_int (pv 1)) (nomark _)) (pss_one (ps_ret (pv 1))) pss_nil)))
      (pss_one ps_never)), ?_⟩
    tm_at "rd"
    refine ⟨hA, rfl, ⟨_, tp.sq H⟩, for_tup (K := K) (a := hA) (xs := rings) (fun i σ H' => (∃ v, σ = [some (.int (c : Int)), v]) ∧ H = H' ∧ (∀ j : Nat, j < i → ∀ z, rings[j]? = some (.int z) → 3 * z < 4 * (c : Int)))
      ⟨⟨none, rfl⟩, rfl, fun j hj => absurd hj (Nat.not_lt_zero _)⟩ (fun i σ H' _ h => by rw [← h.2.1]; exact tp.sq H) ?_ ?_⟩
    · rintro i x σ H' hx ⟨⟨v, rfl⟩, rfl, hj⟩
      have hi : i < 6 := (List.getElem?_eq_some_iff.mp hx).1
      have hi6 : i = 0 ∨ i = 1 ∨ i = 2 ∨ i = 3 ∨ i = 4 ∨ i = 5 := by omega
      have hz : ∃ z, x = .int z := by
        rcases hi6 with rfl | rfl | rfl | rfl | rfl | rfl <;> exact ⟨_, (Option.some.inj hx).symm⟩
      obtain ⟨z, rfl⟩ := hz
      tm_at "rd"
      refine iteD (fun hc => ?_) (fun hc => ?_)
      · tm_at "rd"
        have e : ((rmF c : Nat) : Int) = z := by
          have q0 := fun (hh : 0 < i) => hj 0 hh 8 rfl
          have q1 := fun (hh : 1 < i) => hj 1 hh 16 rfl
          have q2 := fun (hh : 2 < i) => hj 2 hh 32 rfl
          have q3 := fun (hh : 3 < i) => hj 3 hh 64 rfl
          have q4 := fun (hh : 4 < i) => hj 4 hh 128 rfl
          unfold rmF
          rcases hi6 with rfl | rfl | rfl | rfl | rfl | rfl
          all_goals
            have ez := Option.some.inj hx
            injection ez with ez
            subst ez
            (repeat' split) <;> first | rfl | omega
        rw [← e]
        exact k
      · tm_at "rd"
        refine ⟨⟨_, rfl⟩, rfl, fun j hj' z' hz' => ?_⟩
        by_cases e : j = i
        · subst e
          rw [hx] at hz'
          have ez := Option.some.inj hz'
          injection ez with ez
          omega
        · exact hj j (by omega) z' hz'
    · rintro σ H' ⟨_, rfl, hj⟩
      have := hj 5 (by decide) 256 rfl
      omega
theorem ok_all_in (D : Def K mg "all_in" s_all_in ["seats"] f fd) (T : Txt K mg cs) : FnOk P w K mg base CX0 1 f fd ["seats"] spAllIn := by
  refine D.F.ok sc_all_in (fun vs H Q E h => ?_) (fun cdv A outer s H vs Q E hr h => ?_)
  · obtain ⟨a, t, rfl, _⟩ := h
    rfl
  · obtain ⟨a, t, rfl, hH, hl, q⟩ := h
    have nd := sc_all_in.nd
    refine ⟨_, (pss_one (ps_ret (pe_comp rfl (N' := ["guest"]) (own := 1) (fr := []) (show BlkScope ["seats"] (defScope s_all_in) _ _ _ _ from by tm_at "blk_is") (pi_list (pv 0)) (fun _ _ _ _ _ => (pg_name (i := 0) (show (["guest"] : List Str).Nodup from by decide) rfl (Or.inl rfl) (Or.inr rfl))) (fun _ _ _ _ _ => (pifs_one (pt_cmpR op_notN (pv 0) pe_non (nomark _)))) (fun _ _ _ _ _ => (pv 0))))), ?_⟩
    tm_at "rd"
    refine ⟨a, rfl, ⟨_, SqL.of hH⟩, ?_⟩
    refine comp_gen (own := 1) (fr := []) (n := t.length) (p := fun i => (sat t i).isSome) (f := fun i => .int ((sat t i).getD 0)) (S := fun σ => ∃ v, σ = [v]) ⟨_, rfl⟩ (Nat.le_trans hl (by decide)) (fun i H' x H'' _ _ y => ?_) (fun i σ H' hi hσ sm => ?_) (fun H' sm => ?_) (fun l H1 hl0 sm hH1 => ?_)
    · obtain ⟨rfl, _⟩ := y
      exact Same.refl _
    · obtain ⟨v, rfl⟩ := hσ
      have hg : (svs t)[i]? = some (sv (sat t i)) := by
        rw [List.getElem?_map, sat_get hi]
        rfl
      refine ⟨⟨_, _, SqL.of (sm _ _ hH), hg⟩, ?_⟩
      rintro x H'' ⟨rfl, hx⟩ R R0 h1 h0
      have hx' := hx _ (SqL.of (sm _ _ hH))
      rw [hg] at hx'
      cases hx'
      tm_at "rd"
      cases hs : sat t i with
      | none =>
        refine iteN (fun z => absurd rfl z) (fun _ => ?_)
        exact h0 (by rw [hs]; rfl) _ _ ⟨_, rfl⟩ (Same.refl _)
      | some g =>
        rw [sv_some]
        refine iteN (fun _ => ?_) (fun z => nomatch z)
        tm_at "rd"
        have := h1 (by rw [hs]; rfl) [some (.int g)] H'' ⟨_, rfl⟩ (Same.refl _)
        simp only [hs] at this
        exact this
    · exact ⟨_, SqL.of (sm _ _ hH), by rw [svs_len]; exact Nat.le_refl _⟩
    · have hW : ((List.range t.length).filter fun i => (sat t i).isSome).map (fun i => V.int ((sat t i).getD 0)) = (who t).map V.int := by
        rw [← who_range t, List.map_map]
        rfl
      rw [hW] at hH1
      exact q l H1 sm hl0 hH1
theorem ok_fitted (D : Def K mg "fitted" s_fitted ["seats"] f fd) (T : Txt K mg cs) : FnOk P w K mg base CX0 7 f fd ["seats"] spFitted := by
  obtain ⟨f1, fd1, D_all_in⟩ := T.d_all_in
  have G_all_in : FnOk P w K mg base CX0 6 f1 fd1 _ _ := (ok_all_in D_all_in T).mono (by decide)
  obtain ⟨f2, fd2, D_room⟩ := T.d_room
  have G_room : FnOk P w K mg base CX0 6 f2 fd2 _ _ := (ok_room D_room T).mono (by decide)
  obtain ⟨f3, fd3, D_seated⟩ := T.d_seated
  have G_seated : FnOk P w K mg base (CXr P w) 6 f3 fd3 _ _ := (ok_seated D_seated T).mono (by decide)
  refine D.F.ok sc_fitted (fun vs H Q E h => ?_) (fun cdv A outer s H vs Q E hr1 h => ?_)
  · obtain ⟨a, u, rfl, _⟩ := h
    rfl
  · obtain ⟨a, u, rfl, hH, St, hl, hg, h192, q⟩ := h
    have nd := sc_fitted.nd
    obtain ⟨r1, r2, r3⟩ := rmF_ok h192
    refine ⟨_, (pss_cons (ps_set (i := 1) nd rfl (Or.inl rfl) (pe_def D_all_in G_all_in hr1 (pa_c (pv 0) pa_nil)))
      (pss_cons (ps_set (i := 2) nd rfl (Or.inl rfl) (pe_def D_room G_room hr1 (pa_c (pe_b call_len_seq T.n_len PySem.boot_len (pa_c (pv 1) pa_nil)) pa_nil)))
      (pss_one (ps_ret (pe_ifExp (pt_cmpR op_eq (pv 2) (pe_b call_len_seq T.n_len PySem.boot_len (pa_c (pv 0) pa_nil)) (nomark _)) (pv 0) (pe_defN D_seated G_seated hr1 (pa_c (pv 1) (pa_c (pv 2) pa_nil)))))))), ?_⟩
    tm_at "rd"
    refine ⟨a, u, rfl, hH, hl, fun lp H1 s1 hlp h1 => ?_⟩
    tm_at "rd"
    refine ⟨_, _, rfl, .inl (SqL.of h1), ?_⟩
    rw [List.length_map]
    tm_at "rd"
    refine ⟨_, rfl, h192, ?_⟩
    tm_at "rd"
    refine ⟨_, _, rfl, .inl (SqL.of (s1 _ _ hH)), ?_⟩
    rw [svs_len]
    tm_at "rd"
    refine iteD (fun e => ?_) (fun e => ?_)
    · tm_at "rd"
      exact q a u H1 s1 (s1 _ _ hH) ⟨St, by omega, hg, h192⟩ (List.Perm.refl _)
    · tm_at "rd"
      refine .inr ⟨lp, who u, rmF (who u).length, rfl, SqL.of h1, hg, by omega, by omega, by omega, fun H2 s2 => ⟨fun z => absurd (St.nodup (fun g => hm_lt (by have := St.emp; omega) g)) z, fun _ z => by omega, fun _ _ l2 t hl2 h2 S2 hp => ?_⟩⟩
      have tl : t.length = rmF (who u).length := S2.len
      refine q l2 t H2 (s1.trans s2) h2 ⟨by rw [tl]; exact S2, by rw [tl, hp.length_eq], fun g h => hg g (hp.mem_iff.mp h), by rw [hp.length_eq]; exact h192⟩ hp
theorem ok_hinit (D : InitD K cs.House "House.__init__" s_House___init__ ["self", "most"] "most" 96 f fd) (T : Txt K mg cs) : FnOk P w K mg base (CXr P w) 3 f fd ["self", "most"] (spHInit K cs.House cs.NoSize) := by
  obtain ⟨f1, fd1, D_is_whole⟩ := T.d_is_whole
  have G_is_whole : FnOk P w K mg base CX0 2 f1 fd1 _ _ := (ok_iw D_is_whole T).mono (by decide)
  obtain ⟨f2, fd2, D_room⟩ := T.d_room
  have G_room : FnOk P w K mg base CX0 2 f2 fd2 _ _ := (ok_room D_room T).mono (by decide)
  obtain ⟨t1, g_GREATEST_MOST⟩ := T.g_GREATEST_MOST
  refine D.okX sc_House___init__ (fun vs H Q E h => ?_) (fun cdv A outer s H vs Q E hr1 h => ?_)
  · rcases h with ⟨p, dx, m, rfl, _⟩ | ⟨p, x, rfl, _⟩ <;> rfl
  · have nd := sc_House___init__.nd
    rcases h with ⟨p, dx, m, rfl, hp, m0, m1, q⟩ | ⟨p, x, rfl, hx, q⟩
    all_goals refine ⟨_, (ssx_cons (sx_if ((pw_or (pt_not (pt_val (pe_def D_is_whole G_is_whole hr1 (pa_c (pv 1) pa_nil)))) (pw_or1 (pt_not (pt_chain op_le op_le pe_int (pv 1) (pe_gint g_GREATEST_MOST)))))).pt (ssx_one (sx_raise ownFr_cx rfl T.K_NoSize (pa_c pe_str pa_nil))) ssx_nil)
      (ssx_cons (sx (ps_fld (pv 0) (pv 1) rfl))
      (ssx_one (sx (ps_fld (pv 0) (pe_op op_rep (pe_lst (pa_c pe_non pa_nil)) (pe_def D_room G_room hr1 (pa_c pe_int pa_nil))) rfl))))), ?_⟩
    · tm_at "rd"
      refine .inl ⟨m, rfl, ?_⟩
      tm_at "rd"
      refine iteF ?_
      tm_at "rd"
      refine iteDT m0 ?_
      tm_at "rd"
      rw [decide_eq_true m1]
      refine iteF ?_
      tm_at "rd"
      refine ⟨p, cs.House, dx, _, rfl, hp, T.cl_House, T.na_most, (by show 0 < 1000; decide), ?_⟩
      tm_at "rd"
      refine ⟨(by show 1 ≤ sizeLine; decide), fun l0 hl0 => ?_⟩
      have p0 : p ≠ l0 := fun z => by rw [← z, upd_same] at hl0; cases hl0
      tm_at "rd"
      refine ⟨0, rfl, by omega, ?_⟩
      refine rd_rep upd_same (by decide) (by decide) (by decide) fun ls hls => ?_
      have pls : p ≠ ls := fun z => by rw [← z, upd_ne p0, upd_same] at hls; cases hls
      tm_at "rd"
      refine ⟨p, cs.House, dx, _, rfl, by rw [upd_ne pls, upd_ne p0, upd_same], T.cl_House, T.na_seats, (by show 1 < 1000; decide), ?_⟩
      refine q _ (fun b o ne e => ?_) ⟨dx, ls, upd_same, ?_⟩
      · have n0 : b ≠ l0 := fun z => by rw [z] at e ne; rw [upd_ne ne, e] at hl0; cases hl0
        have n1 : b ≠ ls := fun z => by rw [z] at e ne n0; rw [upd_ne n0, upd_ne ne, e] at hls; cases hls
        rw [upd_ne ne, upd_ne n1, upd_ne n0, upd_ne ne]
        exact e
      · rw [upd_ne (Ne.symm pls), upd_same]
        rfl
    · rcases hx with hx | ⟨i, rfl, hi⟩
      · tm_at "rd"
        refine .inr ⟨x, rfl, hx, ?_⟩
        tm_at "rd"
        refine iteT ?_
        refine iteT ?_
        tm_at "rd"
        exact ⟨(by show 1 ≤ sizeLine; decide), q⟩
      · tm_at "rd"
        refine .inl ⟨i, rfl, ?_⟩
        tm_at "rd"
        refine iteF ?_
        tm_at "rd"
        refine iteD (fun h0 => ?_) (fun h0 => ?_)
        · tm_at "rd"
          rw [decide_eq_false (by omega)]
          refine iteT ?_
          tm_at "rd"
          exact ⟨(by show 1 ≤ sizeLine; decide), q⟩
        · tm_at "rd"
          refine iteT ?_
          tm_at "rd"
          exact ⟨(by show 1 ≤ sizeLine; decide), q⟩
theorem ok_hseat (D : MethD K cs.House "seat_of" "House.seat_of" s_House_seat_of ["self", "guest"] f fd) (T : Txt K mg cs) : FnOk P w K mg base (CXr P w) 6 f fd ["self", "guest"] (spSeatOf K cs.House cs.NoGuest) := by
  obtain ⟨f1, fd1, D_place_of⟩ := T.d_place_of
  have G_place_of : FnOk P w K mg base (CXr P w) 5 f1 fd1 _ _ := ok_place D_place_of T
  refine D.F.okX sc_House_seat_of (fun vs H Q E h => ?_) (fun cdv A outer s H vs Q E hr1 h => ?_)
  · rcases h with ⟨p, m, t, g, rfl, _⟩ | ⟨p, m, t, x, rfl, _⟩ <;> rfl
  · have nd := sc_House_seat_of.nd
    rcases h with ⟨p, m, t, g, rfl, hA, hn, g0, g1, q⟩ | ⟨p, m, t, x, rfl, hA, hx, q⟩
    all_goals
      obtain ⟨dx, l, h1, h2⟩ := hA.ob
      refine ⟨_, (ssx_one (sx_ret (pex_def ownFr_cx D_place_of G_place_of hr1 (pa_c (pe_fld (pv 0) rfl) (pa_c (pv 1) pa_nil))))), ?_⟩
      tm_at "rd"
      refine ⟨p, cs.House, dx, _, _, rfl, h1, T.cl_House, T.na_seats, hf_seats _ _, ?_⟩
      tm_at "rd"
    · exact .inl ⟨l, t, g, rfl, SqL.of h2, hn, g0, g1, q⟩
    · exact .inr ⟨l, x, rfl, hx, q⟩
theorem ok_hrow (D : MethD K cs.House "row" "House.row" s_House_row ["self"] f fd) (T : Txt K mg cs) : FnOk P w K mg base CX0 1 f fd ["self"] (spHRow cs.House) := by
  refine D.F.ok sc_House_row (fun vs H Q E h => ?_) (fun cdv A outer s H vs Q E hr1 h => ?_)
  · obtain ⟨p, m, t, rfl, _⟩ := h
    rfl
  · obtain ⟨p, m, t, rfl, hA, q⟩ := h
    obtain ⟨dx, l, h1, h2⟩ := hA.ob
    have nd := sc_House_row.nd
    refine ⟨_, (pss_one (ps_ret (pe_t call_list_of T.n_list PyProof.Rows.boot_list (pa_c (pe_fld (pv 0) rfl) pa_nil)))), ?_⟩
    tm_at "rd"
    refine ⟨p, cs.House, dx, _, _, rfl, h1, T.cl_House, T.na_seats, hf_seats _ _, ?_⟩
    tm_at "rd"
    exact ⟨_, _, rfl, .inl (SqL.of h2), fun r hr => q r hr⟩
theorem ok_hmany (D : MethD K cs.House "many" "House.many" s_House_many ["self"] f fd) (T : Txt K mg cs) : FnOk P w K mg base CX0 2 f fd ["self"] (spHMany cs.House) := by
  obtain ⟨f1, fd1, D_all_in⟩ := T.d_all_in
  have G_all_in : FnOk P w K mg base CX0 1 f1 fd1 _ _ := ok_all_in D_all_in T
  refine D.F.ok sc_House_many (fun vs H Q E h => ?_) (fun cdv A outer s H vs Q E hr1 h => ?_)
  · obtain ⟨p, m, t, rfl, _⟩ := h
    rfl
  · obtain ⟨p, m, t, rfl, hA, hl, q⟩ := h
    obtain ⟨dx, l, h1, h2⟩ := hA.ob
    have nd := sc_House_many.nd
    refine ⟨_, (pss_one (ps_ret (pe_b call_len_seq T.n_len PySem.boot_len (pa_c (pe_def D_all_in G_all_in hr1 (pa_c (pe_fld (pv 0) rfl) pa_nil)) pa_nil)))), ?_⟩
    tm_at "rd"
    refine ⟨p, cs.House, dx, _, _, rfl, h1, T.cl_House, T.na_seats, hf_seats _ _, ?_⟩
    tm_at "rd"
    refine ⟨l, t, rfl, h2, hl, fun la H1 s1 _ ha => ?_⟩
    tm_at "rd"
    refine ⟨_, _, rfl, .inl (SqL.of ha), ?_⟩
    rw [List.length_map]
    exact q H1 s1
theorem ok_hguests (D : MethD K cs.House "guests" "House.guests" s_House_guests ["self"] f fd) (T : Txt K mg cs) : FnOk P w K mg base CX0 2 f fd ["self"] (spHGuestsA cs.House) := by
  obtain ⟨f1, fd1, D_all_in⟩ := T.d_all_in
  have G_all_in : FnOk P w K mg base CX0 1 f1 fd1 _ _ := ok_all_in D_all_in T
  refine D.F.ok sc_House_guests (fun vs H Q E h => ?_) (fun cdv A outer s H vs Q E hr1 h => ?_)
  · obtain ⟨p, m, t, rfl, _⟩ := h
    rfl
  · obtain ⟨p, m, t, rfl, hA, hl, h64, q⟩ := h
    obtain ⟨dx, l, h1, h2⟩ := hA.ob
    have nd := sc_House_guests.nd
    refine ⟨_, (pss_one (ps_ret (pe_b call_sortedA T.n_sorted PyProof.Rows.boot_sorted (pa_c (pe_def D_all_in G_all_in hr1 (pa_c (pe_fld (pv 0) rfl) pa_nil)) pa_nil)))), ?_⟩
    tm_at "rd"
    refine ⟨p, cs.House, dx, _, _, rfl, h1, T.cl_House, T.na_seats, hf_seats _ _, ?_⟩
    tm_at "rd"
    refine ⟨l, t, rfl, h2, hl, fun la H1 s1 _ ha => ?_⟩
    tm_at "rd"
    exact ⟨la, _, rfl, SqL.of ha, h64, fun l2 n2 hl2 pm so => q l2 n2 _ (Same.new s1 hl2) (s1.free hl2) upd_same pm so⟩
theorem ok_hcome (D : MethD K cs.House "come" "House.come" s_House_come ["self", "guest"] f fd) (T : Txt K mg cs) : FnOk P w K mg base (CXr P w) 8 f fd ["self", "guest"] (spCome K cs.House cs.NoGuest cs.Twice cs.Full) := by
  obtain ⟨f1, fd1, H_seat_of⟩ := T.h_seat_of
  have G_seat_of : FnOk P w K mg base (CXr P w) 7 f1 fd1 _ _ := (ok_hseat H_seat_of T).mono (by decide)
  obtain ⟨f2, fd2, H_many⟩ := T.h_many
  have G_many : FnOk P w K mg base CX0 7 f2 fd2 _ _ := (ok_hmany H_many T).mono (by decide)
  obtain ⟨f3, fd3, D_fitted⟩ := T.d_fitted
  have G_fitted : FnOk P w K mg base CX0 7 f3 fd3 _ _ := ok_fitted D_fitted T
  obtain ⟨f4, fd4, D_seat_in⟩ := T.d_seat_in
  have G_seat_in : FnOk P w K mg base (CXr P w) 7 f4 fd4 _ _ := (ok_seat_in D_seat_in T).mono (by decide)
  refine D.F.okX sc_House_come (fun vs H Q E h => ?_) (fun cdv A outer s H vs Q E hr1 h => ?_)
  · rcases h with ⟨p, m, t, x, rfl, _⟩ | ⟨p, m, t, g, rfl, _⟩ <;> rfl
  · have nd := sc_House_come.nd
    rcases h with ⟨p, m, t, x, rfl, hA, hx, q⟩ | ⟨p, m, t, g, rfl, hA, F, hmm, g0, g1, qT, qF, q⟩
    all_goals
      obtain ⟨dx, l, h1, h2⟩ := hA.ob
      refine ⟨_, (ssx_cons (sx_ifX (ptx_notN (pex_methD ownFr_cx T.cl_House H_seat_of G_seat_of hr1 (pv 0) (pa_c (pv 1) pa_nil))) (ssx_one (sx_raise ownFr_cx rfl T.K_Twice (pa_c pe_str pa_nil))) ssx_nil)
      (ssx_cons (sx_if (pt_cmpR op_ge (pe_methD0 T.cl_House H_many G_many hr1 (pv 0)) (pe_fld (pv 0) rfl) (nomark _)) (ssx_one (sx_raise ownFr_cx rfl T.K_Full (pa_c pe_str pa_nil))) ssx_nil)
      (ssx_cons (sx (ps_fld (pv 0) (pe_def D_fitted G_fitted hr1 (pa_c (pe_defN D_seat_in G_seat_in hr1 (pa_c (pe_fld (pv 0) rfl) (pa_c (pv 1) pa_nil))) pa_nil)) rfl))
      (ssx_one (sx (ps_ret (pe_methN T.cl_House H_seat_of G_seat_of hr1 (pv 0) (pa_c (pv 1) pa_nil)))))))), ?_⟩
      tm_at "rd"
      refine ⟨p, dx, _, rfl, h1, hf_no (by decide +kernel) (by decide +kernel), ?_⟩
      tm_at "rd"
    · exact .inr ⟨p, m, t, x, rfl, hA, hx, q⟩
    · refine .inl ⟨p, m, t, g, rfl, hA, F.none, g0, g1, ?_⟩
      by_cases hg : g ∈ who t
      · obtain ⟨pp, hp, hs, e⟩ := place_in F.st hg
        rw [e]
        refine iteN (fun _ => ?_) (fun z => nomatch z)
        tm_at "rd"
        exact ⟨(by show 1 ≤ sizeLine; decide), qT hg⟩
      · rw [place_out F.st hg]
        refine iteN (fun z => absurd rfl z) (fun _ => ?_)
        obtain ⟨l8, l256, l3⟩ := F.len
        tm_at "rd"
        refine ⟨p, dx, _, rfl, h1, hf_no (by decide +kernel) (by decide +kernel), ?_⟩
        tm_at "rd"
        refine ⟨p, m, t, rfl, hA, by omega, fun H1 s1 => ?_⟩
        tm_at "rd"
        refine ⟨p, cs.House, dx, _, _, rfl, s1 _ _ h1, T.cl_House, T.na_most, hf_most _ _, ?_⟩
        tm_at "rd"
        refine iteD (fun hc => ?_) (fun hc => ?_)
        · tm_at "rd"
          exact ⟨(by show 1 ≤ sizeLine; decide), qF hg (by omega) H1 s1⟩
        · tm_at "rd"
          refine ⟨p, cs.House, dx, _, _, rfl, s1 _ _ h1, T.cl_House, T.na_seats, hf_seats _ _, ?_⟩
          tm_at "rd"
          refine .inl ⟨l, t, g, rfl, SqL.of (s1 _ _ h2), F.st, by omega, g0, g1, fun z => absurd z hg, fun _ z => by omega, fun _ _ l2 hl2 => ?_⟩
          have n2 : 2 ≤ t.length := by omega
          have hh : ∀ g, hm t.length g < t.length := fun g => hm_lt (by omega) g
          have Sc := comes_settled n2 hh F.st hg (by omega)
          have pc := (comes_ok n2 hh F.st hg).2.2
          have lc : (comes t.length (hm t.length) t g).length = t.length := Sc.len
          have s2 : Same H1 (upd H1 l2 (.lst (svs (comes t.length (hm t.length) t g)))) := Same.new (Same.refl H1) hl2
          have h22 : upd H1 l2 (.lst (svs (comes t.length (hm t.length) t g))) l2 = some (.lst (svs (comes t.length (hm t.length) t g))) := upd_same
          generalize upd H1 l2 (.lst (svs (comes t.length (hm t.length) t g))) = H2 at s2 h22
          tm_at "rd"
          have gs2 : Gs (who (comes t.length (hm t.length) t g)) := fun y hy => by
            rcases List.mem_cons.mp (pc.mem_iff.mp hy) with e | e
            · rw [e]; exact ⟨g0, g1⟩
            · exact F.gs y e
          refine ⟨l2, _, rfl, h22, by rw [lc]; exact Sc, by omega, gs2, by rw [pc.length_eq, List.length_cons]; omega, fun l3' u' H3 s3 h33 F' p' => ?_⟩
          tm_at "rd"
          refine ⟨p, cs.House, dx, _, rfl, s3 _ _ (s2 _ _ (s1 _ _ h1)), T.cl_House, T.na_seats, hf_few _ _, ?_⟩
          rw [hf_put]
          have s03 := s1.trans (s2.trans s3)
          have ne3 : l3' ≠ p := fun z => by rw [z, s03 _ _ h1] at h33; cases h33
          have fr : Frm p H (upd H3 p (.ins cs.House dx (hf m l3'))) := fun b o ne e => by
            rw [upd_ne ne]
            exact s03 _ _ e
          have hA' : HouseAt cs.House (upd H3 p (.ins cs.House dx (hf m l3'))) p m u' := ⟨dx, l3', upd_same, by rw [upd_ne ne3]; exact h33⟩
          tm_at "rd"
          refine ⟨p, dx, _, rfl, upd_same, hf_no (by decide +kernel) (by decide +kernel), ?_⟩
          tm_at "rd"
          exact .inl ⟨p, m, u', g, rfl, hA', F'.none, g0, g1, q hg (by omega) u' _ fr hA' F' (p'.trans pc)⟩
theorem ok_hgo (D : MethD K cs.House "go" "House.go" s_House_go ["self", "guest"] f fd) (T : Txt K mg cs) : FnOk P w K mg base (CXr P w) 8 f fd ["self", "guest"] (spGo K cs.House cs.NoGuest cs.Away) := by
  obtain ⟨f1, fd1, H_seat_of⟩ := T.h_seat_of
  have G_seat_of : FnOk P w K mg base (CXr P w) 7 f1 fd1 _ _ := (ok_hseat H_seat_of T).mono (by decide)
  obtain ⟨f3, fd3, D_fitted⟩ := T.d_fitted
  have G_fitted : FnOk P w K mg base CX0 7 f3 fd3 _ _ := ok_fitted D_fitted T
  obtain ⟨f4, fd4, D_seat_out⟩ := T.d_seat_out
  have G_seat_out : FnOk P w K mg base (CXr P w) 7 f4 fd4 _ _ := (ok_seat_out D_seat_out T).mono (by decide)
  refine D.F.okX sc_House_go (fun vs H Q E h => ?_) (fun cdv A outer s H vs Q E hr1 h => ?_)
  · rcases h with ⟨p, m, t, x, rfl, _⟩ | ⟨p, m, t, g, rfl, _⟩ <;> rfl
  · have nd := sc_House_go.nd
    rcases h with ⟨p, m, t, x, rfl, hA, hx, q⟩ | ⟨p, m, t, g, rfl, hA, F, g0, g1, qA, q⟩
    all_goals
      obtain ⟨dx, l, h1, h2⟩ := hA.ob
      refine ⟨_, (ssx_cons (sx_set (i := 2) nd rfl (Or.inl rfl) (pex_methD ownFr_cx T.cl_House H_seat_of G_seat_of hr1 (pv 0) (pa_c (pv 1) pa_nil)))
      (ssx_cons (sx_if (pt_cmpR op_isN (pv 2) pe_non (nomark _)) (ssx_one (sx_raise ownFr_cx rfl T.K_Away (pa_c pe_str pa_nil))) ssx_nil)
      (ssx_cons (sx (ps_fld (pv 0) (pe_def D_fitted G_fitted hr1 (pa_c (pe_defN D_seat_out G_seat_out hr1 (pa_c (pe_fld (pv 0) rfl) (pa_c (pv 1) pa_nil))) pa_nil)) rfl))
      (ssx_one (sx (ps_ret (pv 2))))))), ?_⟩
      tm_at "rd"
      refine ⟨p, dx, _, rfl, h1, hf_no (by decide +kernel) (by decide +kernel), ?_⟩
      tm_at "rd"
    · exact .inr ⟨p, m, t, x, rfl, hA, hx, q⟩
    · refine .inl ⟨p, m, t, g, rfl, hA, F.none, g0, g1, ?_⟩
      obtain ⟨l8, l256, l3⟩ := F.len
      by_cases hg : g ∈ who t
      · obtain ⟨pp, hp, hs, e⟩ := place_in F.st hg
        rw [e] at q ⊢
        tm_at "rd"
        refine iteDF (fun z => nomatch z) ?_
        tm_at "rd"
        refine ⟨p, cs.House, dx, _, _, rfl, h1, T.cl_House, T.na_seats, hf_seats _ _, ?_⟩
        tm_at "rd"
        refine .inl ⟨l, t, g, rfl, SqL.of h2, F.st, by omega, by omega, g0, g1, fun z => absurd hg z, fun _ l2 r hl2 Sr pr => ?_⟩
        have lr : r.length = t.length := Sr.len
        have s2 : Same H (upd H l2 (.lst (svs r))) := Same.new (Same.refl H) hl2
        have h22 : upd H l2 (.lst (svs r)) l2 = some (.lst (svs r)) := upd_same
        generalize upd H l2 (.lst (svs r)) = H2 at s2 h22
        have pe := pr _ (List.perm_cons_erase hg)
        tm_at "rd"
        have gs2 : Gs (who r) := fun y hy => F.gs y (List.mem_of_mem_erase (pe.mem_iff.mp hy))
        have le2 : (who r).length ≤ 192 := by
          have := F.le
          rw [pe.length_eq, List.length_erase_of_mem hg]
          omega
        refine ⟨l2, r, rfl, h22, by rw [lr]; exact Sr, by omega, gs2, le2, fun l3' u' H3 s3 h33 F' p' => ?_⟩
        tm_at "rd"
        refine ⟨p, cs.House, dx, _, rfl, s3 _ _ (s2 _ _ h1), T.cl_House, T.na_seats, hf_few _ _, ?_⟩
        rw [hf_put]
        have s03 := s2.trans s3
        have ne3 : l3' ≠ p := fun z => by rw [z, s03 _ _ h1] at h33; cases h33
        have fr : Frm p H (upd H3 p (.ins cs.House dx (hf m l3'))) := fun b o ne e => by
          rw [upd_ne ne]
          exact s03 _ _ e
        have hA' : HouseAt cs.House (upd H3 p (.ins cs.House dx (hf m l3'))) p m u' := ⟨dx, l3', upd_same, by rw [upd_ne ne3]; exact h33⟩
        tm_at "rd"
        exact q hg u' _ fr hA' F' fun R hR => p'.trans (pr R hR)
      · rw [place_out F.st hg]
        tm_at "rd"
        refine iteT ?_
        tm_at "rd"
        exact ⟨(by show 1 ≤ sizeLine; decide), qA hg⟩
theorem sat_once {s : Seats} (hnd : (who s).Nodup) : ∀ {p q : Nat} {g : Int}, p < q → q < s.length → sat s p = some g → sat s q = some g → False := by
  induction s with
  | nil => intro p q g _ h; exact absurd h (Nat.not_lt_zero _)
  | cons o r ih =>
    intro p q g hpq hq h1 h2
    obtain ⟨q, rfl⟩ : ∃ q', q = q' + 1 := ⟨q - 1, by omega⟩
    have h2' : sat r q = some g := h2
    have hq' : q < r.length := by simpa using hq
    cases p with
    | zero =>
      have h1' : o = some g := h1
      subst h1'
      have : who (some g :: r) = g :: who r := rfl
      rw [this] at hnd
      exact (List.nodup_cons.mp hnd).1 (mem_who.mpr ⟨q, hq', h2'⟩)
    | succ p =>
      have hnd' : (who r).Nodup := by
        cases o with
        | none => exact hnd
        | some y => exact (List.nodup_cons.mp (show (y :: who r).Nodup from hnd)).2
      exact ih hnd' (p := p) (q := q) (by omega) hq' h1 h2'
structure KI (K : PySem.W.Frag) (cs : Cs) (C : Addr) (i : Nat) : Prop where
  k : PySem.W.ExcK K C
  c : (PySem.W.clsIn K C).isSome = true
  n : PySem.W.kitOne K (.ref C) (.ref cs.NoGuest) = some (decide (0 = i))
  s : PySem.W.kitOne K (.ref C) (.ref cs.NoSize) = some (decide (1 = i))
  t : PySem.W.kitOne K (.ref C) (.ref cs.Twice) = some (decide (2 = i))
  a : PySem.W.kitOne K (.ref C) (.ref cs.Away) = some (decide (3 = i))
  f : PySem.W.kitOne K (.ref C) (.ref cs.Full) = some (decide (4 = i))
  v : PySem.W.kitOne K (.ref C) (.type "ValueError") = some true
theorem ki_NoGuest (T : Txt K mg cs) : KI K cs cs.NoGuest 0 := ⟨T.K_NoGuest.k, T.K_NoGuest.c, T.i_NoGuest_NoGuest, T.i_NoGuest_NoSize, T.i_NoGuest_Twice, T.i_NoGuest_Away, T.i_NoGuest_Full, T.v_NoGuest⟩
theorem ki_NoSize (T : Txt K mg cs) : KI K cs cs.NoSize 1 := ⟨T.K_NoSize.k, T.K_NoSize.c, T.i_NoSize_NoGuest, T.i_NoSize_NoSize, T.i_NoSize_Twice, T.i_NoSize_Away, T.i_NoSize_Full, T.v_NoSize⟩
theorem ki_Twice (T : Txt K mg cs) : KI K cs cs.Twice 2 := ⟨T.K_Twice.k, T.K_Twice.c, T.i_Twice_NoGuest, T.i_Twice_NoSize, T.i_Twice_Twice, T.i_Twice_Away, T.i_Twice_Full, T.v_Twice⟩
theorem ki_Away (T : Txt K mg cs) : KI K cs cs.Away 3 := ⟨T.K_Away.k, T.K_Away.c, T.i_Away_NoGuest, T.i_Away_NoSize, T.i_Away_Twice, T.i_Away_Away, T.i_Away_Full, T.v_Away⟩
theorem ki_Full (T : Txt K mg cs) : KI K cs cs.Full 4 := ⟨T.K_Full.k, T.K_Full.c, T.i_Full_NoGuest, T.i_Full_NoSize, T.i_Full_Twice, T.i_Full_Away, T.i_Full_Full, T.v_Full⟩
def spKinds (K : PySem.W.Frag) (cs : Cs) : Sp := fun vs H Q _ => ∃ (e C : Addr) (i : Nat), vs = [.ref e] ∧ H e = some (excHO e (.ref C)) ∧ KI K cs C i ∧ ∀ l H', Same H H' → H' l = some (.lst (fl6 i)) → Q (.ref l) H'
theorem ok_kinds (D : Def K mg "_law_kinds" s_l_kinds ["_law_e"] f fd) (T : Txt K mg cs) : FnH P w K mg base 1 f fd ["_law_e"] (spKinds K cs) := by
  refine D.F.okH sc_l_kinds (fun vs H Q E h => ?_) (fun cdv A outer s H vs Q E hr1 h => ?_)
  · obtain ⟨e, C, i, rfl, _⟩ := h
    rfl
  · obtain ⟨e, C, i, rfl, he, ki, q⟩ := h
    have nd := sc_l_kinds.nd
    refine ⟨_, fun ev => (pss_cons (ps_set (i := 1) nd rfl (Or.inl rfl) (pe_b call_isinstH T.n_isinstance PyProof.Rows.boot_isinstance (pa_c (pv 0) (pa_c (pe_ty T.n_ValueError PyProof.Rows.boot_ValueError) pa_nil))))
      (pss_one (ps_ret (pe_lst (pa_c (pe_b call_isinstH T.n_isinstance PyProof.Rows.boot_isinstance (pa_c (pv 0) (pa_c (pe_gref T.m_NoGuest) pa_nil))) (pa_c (pe_b call_isinstH T.n_isinstance PyProof.Rows.boot_isinstance (pa_c (pv 0) (pa_c (pe_gref T.m_NoSize) pa_nil))) (pa_c (pe_b call_isinstH T.n_isinstance PyProof.Rows.boot_isinstance (pa_c (pv 0) (pa_c (pe_gref T.m_Twice) pa_nil))) (pa_c (pe_b call_isinstH T.n_isinstance PyProof.Rows.boot_isinstance (pa_c (pv 0) (pa_c (pe_gref T.m_Away) pa_nil))) (pa_c (pe_b call_isinstH T.n_isinstance PyProof.Rows.boot_isinstance (pa_c (pv 0) (pa_c (pe_gref T.m_Full) pa_nil))) (pa_c (pv 1) pa_nil)))))))))), ?_⟩
    tm_at "rd"
    refine ⟨e, C, _, .type "ValueError", true, rfl, he, rfl, ki.k, ki.c, ki.v, ?_⟩
    tm_at "rd"
    refine ⟨e, C, _, .ref cs.NoGuest, _, rfl, he, rfl, ki.k, ki.c, ki.n, ?_⟩
    tm_at "rd"
    refine ⟨e, C, _, .ref cs.NoSize, _, rfl, he, rfl, ki.k, ki.c, ki.s, ?_⟩
    tm_at "rd"
    refine ⟨e, C, _, .ref cs.Twice, _, rfl, he, rfl, ki.k, ki.c, ki.t, ?_⟩
    tm_at "rd"
    refine ⟨e, C, _, .ref cs.Away, _, rfl, he, rfl, ki.k, ki.c, ki.a, ?_⟩
    tm_at "rd"
    refine ⟨e, C, _, .ref cs.Full, _, rfl, he, rfl, ki.k, ki.c, ki.f, ?_⟩
    tm_at "rd"
    refine ⟨(by show 6 ≤ sizeLine; decide), fun l hl => ?_⟩
    exact q l _ (Same.new (Same.refl H) hl) upd_same
def spOnly : Sp := fun vs H Q _ => ∃ i : Nat, vs = [.int (i : Int)] ∧ i ≤ 4 ∧ ∀ l H', Same H H' → H' l = some (.lst (fl6 i)) → Q (.ref l) H'
theorem ok_only (D : Def K mg "_law_only" s_l_only ["_law_at"] f fd) (T : Txt K mg cs) : FnOk P w K mg base CX0 1 f fd ["_law_at"] spOnly := by
  refine D.F.ok sc_l_only (fun vs H Q E h => ?_) (fun cdv A outer s H vs Q E hr1 h => ?_)
  · obtain ⟨i, rfl, _⟩ := h
    rfl
  · obtain ⟨i, rfl, hi, q⟩ := h
    have nd := sc_l_only.nd
    refine ⟨_, (pss_one (ps_ret (pe_comp rfl (N' := ["_law_k", "_law_at"]) (own := 1) (fr := [0]) (show BlkScope ["_law_at"] (defScope s_l_only) _ _ _ _ from by tm_at "blk_is") (pi_range1 rfl T.n_range (pa_c pe_int pa_nil)) (fun _ _ _ _ _ => (pg_name (i := 0) (show (["_law_k", "_law_at"] : List Str).Nodup from by decide) rfl (Or.inl rfl) (Or.inr rfl))) (fun _ _ _ _ _ => pifs_nil) (fun _ _ _ _ _ => (pe_or (pe_cmpR op_eq (pv 0) (pv 1) (nomark _)) (pe_one (pe_cmpR op_eq (pv 0) pe_int (nomark _)))))))), ?_⟩
    tm_at "rd"
    refine rd_exR (by decide) (by decide) ?_
    refine comp_gen (own := 1) (fr := [0]) (n := 6) (p := fun _ => true) (f := fun j => .bl (decide ((j : Int) = (i : Int)) || decide ((j : Int) = 5))) (S := fun σ => ∃ v, σ = [v, some (.int (i : Int))]) ⟨_, rfl⟩ (by decide) (fun j H' x H'' _ _ y => ?_) (fun j σ H' hj hσ sm => ?_) (fun H' sm => ?_) (fun l H1 hl0 sm hH1 => ?_)
    · obtain ⟨rfl, _⟩ := y
      exact Same.refl _
    · obtain ⟨v, rfl⟩ := hσ
      refine ⟨hj, ?_⟩
      rintro x H'' ⟨rfl, rfl⟩ R R0 h1 h0
      tm_at "rd"
      refine iteT ?_
      tm_at "rd"
      rw [Int.zero_add]
      have := h1 rfl [some (.int (j : Int)), some (.int (i : Int))] H'' ⟨_, rfl⟩ (Same.refl _)
      by_cases e : (j : Int) = (i : Int)
      · refine iteDT e ?_
        rw [decide_eq_true e, Bool.true_or] at this
        exact this
      · refine iteDF e ?_
        tm_at "rd"
        rw [decide_eq_false e, Bool.false_or] at this
        exact this
    · exact Nat.le_refl _
    · refine q l H1 sm ?_
      rw [hH1]
      have : i = 0 ∨ i = 1 ∨ i = 2 ∨ i = 3 ∨ i = 4 := by omega
      rcases this with rfl | rfl | rfl | rfl | rfl <;> rfl
theorem bad_of (T : Txt K mg cs) {H : Hp} {x : V} (h : OddX H x) : Odd K H x := by
  rcases h with h | rfl | ⟨z, rfl⟩ | ⟨a, rfl, h⟩
  · exact .inl h
  · exact .inr ⟨_, .non, T.k_NoneType_bool, T.k_NoneType_int⟩
  · exact .inr ⟨_, .str _, T.k_str_bool, T.k_str_int⟩
  · rcases h with ⟨xs, h⟩ | ⟨xs, h⟩ | ⟨xs, h⟩
    · exact .inr ⟨_, .lst h, T.k_list_bool, T.k_list_int⟩
    · exact .inr ⟨_, .tup h, T.k_tuple_bool, T.k_tuple_int⟩
    · exact .inr ⟨_, .dK h, T.k_dict_bool, T.k_dict_int⟩
def BadX (H : Hp) (x : V) : Prop := (∃ i : Int, x = .int i ∧ ¬ (0 ≤ i ∧ i < P60)) ∨ OddX H x
theorem BadX.bad (T : Txt K mg cs) {H : Hp} {x : V} (h : BadX H x) : Bad K H x := by
  rcases h with h | h
  · exact .inl h
  · exact .inr (bad_of T h)
def spMade (K : PySem.W.Frag) : Sp := fun vs H Q _ => ∃ x : V, vs = [x] ∧ (OddX H x ∨ ∃ i : Int, x = .int i ∧ ¬ (0 ≤ i ∧ i ≤ 192)) ∧ ∀ l H', Same H H' → H' l = some (.lst (fl6 1)) → Q (.ref l) H'
theorem ok_made (D : Def K mg "_law_made" s_l_made ["_law_size_here"] f fd) (T : Txt K mg cs) : FnOk P w K mg base (CXr P w) 5 f fd ["_law_size_here"] (spMade K) := by
  obtain ⟨f1, fd1, H_init⟩ := T.h_init
  have G_init : FnOk P w K mg base (CXr P w) 3 f1 fd1 _ _ := ok_hinit H_init T
  obtain ⟨f2, fd2, D_l_kinds⟩ := T.d_l_kinds
  have G_l_kinds : FnH P w K mg base 4 f2 fd2 _ _ := (ok_kinds D_l_kinds T).mono (by decide)
  refine D.F.okX sc_l_made (fun vs H Q E h => ?_) (fun cdv A outer s H vs Q E hr1 h => ?_)
  · obtain ⟨x, rfl, _⟩ := h
    rfl
  · obtain ⟨x, rfl, hx, q⟩ := h
    have nd := sc_l_made.nd
    refine ⟨_, (ssx_cons (sx_try (i := 1) ownFr_cx nd (ssx_one (sx_expr (pex_makeD ownFr_cx H_init G_init hr1 T.m_House (pa_c (pv 0) pa_nil)))) (fun _ => (pss_one (ps_ret (pe_defH D_l_kinds G_l_kinds hr1 (pa_c (pv 1) pa_nil))))) T.m_RingError rfl)
      (ssx_one (sx (ps_ret (pe_lst pa_nil))))), ?_⟩
    tm_at "rd"
    intro p dx hp hdx hne
    have s1 : Same H (upd (upd H dx (.own p)) p (.ins cs.House dx [])) := fun b o e => by
      have n1 : b ≠ p := fun z => by rw [z, hp] at e; cases e
      have n2 : b ≠ dx := fun z => by rw [z, hdx] at e; cases e
      rw [upd_ne n1, upd_ne n2]
      exact e
    generalize upd (upd H dx (.own p)) p (.ins cs.House dx []) = H1 at s1
    refine .inr ⟨p, x, rfl, ?_, T.x_NoSize, fun e he => ?_⟩
    · rcases hx with hx | hx
      · exact .inl (bad_of T (hx.same s1))
      · exact .inr hx
    · tm_at "rd"
      refine ⟨e, cs.NoSize, 1, rfl, upd_same, ki_NoSize T, fun l H' s' hl => ?_⟩
      exact q l H' ((Same.new s1 he).trans s') hl
def spComes (K : PySem.W.Frag) (C : Addr) : Sp := fun vs H Q _ => (∃ (p : Addr) (m : Int) (t : Seats) (x : V), vs = [.ref p, x] ∧ HouseAt C H p m t ∧ BadX H x ∧ ∀ l H', Same H H' → H' l = some (.lst (fl6 0)) → Q (.ref l) H') ∨
  (∃ (p : Addr) (m : Int) (t : Seats) (g : Int), vs = [.ref p, .int g] ∧ HouseAt C H p m t ∧ Fit t ∧ m ≤ 192 ∧ 0 ≤ g ∧ g < P60 ∧ (g ∈ who t ∨ m ≤ ((who t).length : Int)) ∧ (g ∈ who t → ∀ l H', Same H H' → H' l = some (.lst (fl6 2)) → Q (.ref l) H') ∧ (g ∉ who t → ∀ l H', Same H H' → H' l = some (.lst (fl6 4)) → Q (.ref l) H'))
theorem ok_comes (D : Def K mg "_law_comes" s_l_comes ["_law_house_here", "_law_guest"] f fd) (T : Txt K mg cs) : FnOk P w K mg base (CXr P w) 9 f fd ["_law_house_here", "_law_guest"] (spComes K cs.House) := by
  obtain ⟨f1, fd1, H_come⟩ := T.h_come
  have G_come : FnOk P w K mg base (CXr P w) 8 f1 fd1 _ _ := ok_hcome H_come T
  obtain ⟨f2, fd2, D_l_kinds⟩ := T.d_l_kinds
  have G_l_kinds : FnH P w K mg base 8 f2 fd2 _ _ := (ok_kinds D_l_kinds T).mono (by decide)
  refine D.F.okX sc_l_comes (fun vs H Q E h => ?_) (fun cdv A outer s H vs Q E hr1 h => ?_)
  · rcases h with ⟨p, m, t, x, rfl, _⟩ | ⟨p, m, t, g, rfl, _⟩ <;> rfl
  · have nd := sc_l_comes.nd
    rcases h with ⟨p, m, t, x, rfl, hA, hx, q⟩ | ⟨p, m, t, g, rfl, hA, F, hmm, g0, g1, hor, qT, qF⟩
    all_goals
      obtain ⟨dx, l, h1, h2⟩ := hA.ob
      refine ⟨_, (ssx_cons (sx_try (i := 2) ownFr_cx nd (ssx_one (sx_expr (pex_methD ownFr_cx T.cl_House H_come G_come hr1 (pv 0) (pa_c (pv 1) pa_nil)))) (fun _ => (pss_one (ps_ret (pe_defH D_l_kinds G_l_kinds hr1 (pa_c (pv 2) pa_nil))))) T.m_RingError rfl)
      (ssx_one (sx (ps_ret (pe_lst pa_nil))))), ?_⟩
      tm_at "rd"
      refine ⟨p, dx, _, rfl, h1, hf_no (by decide +kernel) (by decide +kernel), ?_⟩
      tm_at "rd"
    · refine .inl ⟨p, m, t, x, rfl, hA, hx.bad T, T.x_NoGuest, fun e he => ?_⟩
      tm_at "rd"
      refine ⟨e, cs.NoGuest, 0, rfl, upd_same, ki_NoGuest T, fun l H' s' hl => ?_⟩
      exact q l H' ((Same.new (Same.refl H) he).trans s') hl
    · refine .inr ⟨p, m, t, g, rfl, hA, F, hmm, g0, g1, fun hg => ⟨T.x_Twice, fun e he => ?_⟩, fun hg hn H1 s1 => ⟨T.x_Full, fun e he => ?_⟩, fun hg hn => by
        rcases hor with z | z
        · exact absurd z hg
        · omega⟩
      · tm_at "rd"
        refine ⟨e, cs.Twice, 2, rfl, upd_same, ki_Twice T, fun l H' s' hl => ?_⟩
        exact qT hg l H' ((Same.new (Same.refl H) he).trans s') hl
      · tm_at "rd"
        refine ⟨e, cs.Full, 4, rfl, upd_same, ki_Full T, fun l H' s' hl => ?_⟩
        exact qF hg l H' ((Same.new s1 he).trans s') hl
def spGoes (K : PySem.W.Frag) (C : Addr) : Sp := fun vs H Q _ => (∃ (p : Addr) (m : Int) (t : Seats) (x : V), vs = [.ref p, x] ∧ HouseAt C H p m t ∧ BadX H x ∧ ∀ l H', Same H H' → H' l = some (.lst (fl6 0)) → Q (.ref l) H') ∨
  (∃ (p : Addr) (m : Int) (t : Seats) (g : Int), vs = [.ref p, .int g] ∧ HouseAt C H p m t ∧ Fit t ∧ 0 ≤ g ∧ g < P60 ∧ (g ∉ who t → ∀ l H', Same H H' → H' l = some (.lst (fl6 3)) → Q (.ref l) H') ∧
    (g ∈ who t → ∀ (l : Addr) (t' : Seats) (H' : Hp), Frm p H H' → HouseAt C H' p m t' → Fit t' → (∀ R, (who t).Perm (g :: R) → (who t').Perm R) → H' l = some (.lst []) → Q (.ref l) H'))
theorem ok_goes (D : Def K mg "_law_goes" s_l_goes ["_law_house_here", "_law_guest"] f fd) (T : Txt K mg cs) : FnOk P w K mg base (CXr P w) 9 f fd ["_law_house_here", "_law_guest"] (spGoes K cs.House) := by
  obtain ⟨f1, fd1, H_go⟩ := T.h_go
  have G_go : FnOk P w K mg base (CXr P w) 8 f1 fd1 _ _ := ok_hgo H_go T
  obtain ⟨f2, fd2, D_l_kinds⟩ := T.d_l_kinds
  have G_l_kinds : FnH P w K mg base 8 f2 fd2 _ _ := (ok_kinds D_l_kinds T).mono (by decide)
  refine D.F.okX sc_l_goes (fun vs H Q E h => ?_) (fun cdv A outer s H vs Q E hr1 h => ?_)
  · rcases h with ⟨p, m, t, x, rfl, _⟩ | ⟨p, m, t, g, rfl, _⟩ <;> rfl
  · have nd := sc_l_goes.nd
    rcases h with ⟨p, m, t, x, rfl, hA, hx, q⟩ | ⟨p, m, t, g, rfl, hA, F, g0, g1, qA, qG⟩
    all_goals
      obtain ⟨dx, l, h1, h2⟩ := hA.ob
      refine ⟨_, (ssx_cons (sx_try (i := 2) ownFr_cx nd (ssx_one (sx_expr (pex_methD ownFr_cx T.cl_House H_go G_go hr1 (pv 0) (pa_c (pv 1) pa_nil)))) (fun _ => (pss_one (ps_ret (pe_defH D_l_kinds G_l_kinds hr1 (pa_c (pv 2) pa_nil))))) T.m_RingError rfl)
      (ssx_one (sx (ps_ret (pe_lst pa_nil))))), ?_⟩
      tm_at "rd"
      refine ⟨p, dx, _, rfl, h1, hf_no (by decide +kernel) (by decide +kernel), ?_⟩
      tm_at "rd"
    · refine .inl ⟨p, m, t, x, rfl, hA, hx.bad T, T.x_NoGuest, fun e he => ?_⟩
      tm_at "rd"
      refine ⟨e, cs.NoGuest, 0, rfl, upd_same, ki_NoGuest T, fun l H' s' hl => ?_⟩
      exact q l H' ((Same.new (Same.refl H) he).trans s') hl
    · refine .inr ⟨p, m, t, g, rfl, hA, F, g0, g1, fun hg => ⟨T.x_Away, fun e he => ?_⟩, fun hg t' H' fr hA' F' pp => ?_⟩
      · tm_at "rd"
        refine ⟨e, cs.Away, 3, rfl, upd_same, ki_Away T, fun l H' s' hl => ?_⟩
        exact qA hg l H' ((Same.new (Same.refl H) he).trans s') hl
      · tm_at "rd"
        refine ⟨(by show 0 ≤ sizeLine; decide), fun lr hlr => ?_⟩
        have s' : Same H' (upd H' lr (.lst [])) := Same.new (Same.refl H') hlr
        exact qG hg lr t' _ (fr.trans (Frm.of s')) (hA'.same s') F' pp upd_same
def spLooked (K : PySem.W.Frag) (C : Addr) : Sp := fun vs H Q _ => ∃ (p : Addr) (m : Int) (t : Seats) (x : V), vs = [.ref p, x] ∧ HouseAt C H p m t ∧ BadX H x ∧ ∀ l H', Same H H' → H' l = some (.lst (fl6 0)) → Q (.ref l) H'
theorem ok_looked (D : Def K mg "_law_looked_for" s_l_looked_for ["_law_house_here", "_law_guest"] f fd) (T : Txt K mg cs) : FnOk P w K mg base (CXr P w) 9 f fd ["_law_house_here", "_law_guest"] (spLooked K cs.House) := by
  obtain ⟨f1, fd1, H_seat_of⟩ := T.h_seat_of
  have G_seat_of : FnOk P w K mg base (CXr P w) 8 f1 fd1 _ _ := (ok_hseat H_seat_of T).mono (by decide)
  obtain ⟨f2, fd2, D_l_kinds⟩ := T.d_l_kinds
  have G_l_kinds : FnH P w K mg base 8 f2 fd2 _ _ := (ok_kinds D_l_kinds T).mono (by decide)
  refine D.F.okX sc_l_looked_for (fun vs H Q E h => ?_) (fun cdv A outer s H vs Q E hr1 h => ?_)
  · obtain ⟨p, m, t, x, rfl, _⟩ := h
    rfl
  · have nd := sc_l_looked_for.nd
    obtain ⟨p, m, t, x, rfl, hA, hx, q⟩ := h
    obtain ⟨dx, l, h1, h2⟩ := hA.ob
    refine ⟨_, (ssx_cons (sx_try (i := 2) ownFr_cx nd (ssx_one (sx_expr (pex_methD ownFr_cx T.cl_House H_seat_of G_seat_of hr1 (pv 0) (pa_c (pv 1) pa_nil)))) (fun _ => (pss_one (ps_ret (pe_defH D_l_kinds G_l_kinds hr1 (pa_c (pv 2) pa_nil))))) T.m_RingError rfl)
      (ssx_one (sx (ps_ret (pe_lst pa_nil))))), ?_⟩
    tm_at "rd"
    refine ⟨p, dx, _, rfl, h1, hf_no (by decide +kernel) (by decide +kernel), ?_⟩
    tm_at "rd"
    refine .inr ⟨p, m, t, x, rfl, hA, hx.bad T, T.x_NoGuest, fun e he => ?_⟩
    tm_at "rd"
    refine ⟨e, cs.NoGuest, 0, rfl, upd_same, ki_NoGuest T, fun l H' s' hl => ?_⟩
    exact q l H' ((Same.new (Same.refl H) he).trans s') hl
def spOdd10 : Sp := fun vs H Q _ => ∃ c : Int, vs = [.int c] ∧ ∀ x H', BadX H' x → Same H H' → Q x H'
theorem ok_odd10 (D : Def K mg "_law_odd" s_l_odd ["_law_cell"] f fd) (T : Txt K mg cs) : FnOk P w K mg base CX0 1 f fd ["_law_cell"] spOdd10 := by
  refine D.F.ok sc_l_odd (fun vs H Q E h => ?_) (fun cdv A outer s H vs Q E hr1 h => ?_)
  · obtain ⟨c, rfl, _⟩ := h
    rfl
  · obtain ⟨c, rfl, q⟩ := h
    have nd := sc_l_odd.nd
    refine ⟨_, (pss_cons (ps_set (i := 1) nd rfl (Or.inl rfl) (pe_op op_mod (pe_op op_fdiv (pv 0) pe_int) (pe_op op_pow pe_int pe_int)))
      (pss_cons (ps_set (i := 2) nd rfl (Or.inl rfl) (pe_lst (pa_c pe_bl (pa_c pe_bl (pa_c pe_non (pa_c pe_str (pa_c pe_str (pa_c (pe_lst (pa_c pe_int pa_nil)) (pa_c (pe_tup (pa_c pe_int pa_nil)) (pa_c pe_dnewK (pa_c (pe_un un_neg pe_int) (pa_c (pe_op op_pow pe_int pe_int) (pa_c (pe_op op_sub (pe_un un_neg pe_int) (pv 1)) (pa_c (pe_op op_add (pe_op op_add (pe_op op_pow pe_int pe_int) pe_int) (pv 1)) (pa_c (pe_lst pa_nil) pa_nil)))))))))))))))
      (pss_one (ps_ret (pe_ix ix_list (pv 2) (pe_op op_mod (pv 0) pe_int) (fun _ _ => rfl)))))), ?_⟩
    tm_at "rd"
    rw [p40]
    have g0 := Int.emod_nonneg (c / 13) (show P40 ≠ 0 by decide)
    generalize c / 13 % P40 = g at g0
    refine ⟨(by show 1 ≤ sizeLine; decide), fun p1 h1 => ?_⟩
    tm_at "rd"
    refine ⟨(by show 1 ≤ sizeLine; decide), fun p2 h2 => ?_⟩
    tm_at "rd"
    intro p3 h3
    tm_at "rd"
    rw [p60]
    refine ⟨(by show 0 ≤ sizeLine; decide), fun p4 h4 => ?_⟩
    tm_at "rd"
    refine ⟨(by show 13 ≤ sizeLine; decide), fun p5 h5 => ?_⟩
    tm_at "rd"
    have e1' := upd_old (u := .lst []) (upd_old (u := .dK []) (upd_old (u := .tup [.int 7]) (show upd H p1 (.lst [.int 7]) p1 = some (.lst [.int 7]) from upd_same) h2) h3) h4
    have e2' := upd_old (u := .lst []) (upd_old (u := .dK []) (show upd (upd H p1 (.lst [.int 7])) p2 (.tup [.int 7]) p2 = some (.tup [.int 7]) from upd_same) h3) h4
    have e3' := upd_old (u := .lst []) (show upd (upd (upd H p1 (.lst [.int 7])) p2 (.tup [.int 7])) p3 (.dK []) p3 = some (.dK []) from upd_same) h4
    have e4' : upd (upd (upd (upd H p1 (.lst [.int 7])) p2 (.tup [.int 7])) p3 (.dK [])) p4 (.lst []) p4 = some (.lst []) := upd_same
    have sm : Same H (upd (upd (upd (upd H p1 (.lst [.int 7])) p2 (.tup [.int 7])) p3 (.dK [])) p4 (.lst [])) := Same.new (Same.new (Same.new (Same.new (Same.refl H) h1) h2) h3) h4
    generalize upd (upd (upd (upd H p1 (.lst [.int 7])) p2 (.tup [.int 7])) p3 (.dK [])) p4 (.lst []) = H3 at h5 e1' e2' e3' e4' sm
    have m0 := Int.emod_nonneg c (show (13 : Int) ≠ 0 by decide)
    have m1 := Int.emod_lt_of_pos c (show (0 : Int) < 13 by decide)
    have hm : c % 13 = 0 ∨ c % 13 = 1 ∨ c % 13 = 2 ∨ c % 13 = 3 ∨ c % 13 = 4 ∨ c % 13 = 5 ∨ c % 13 = 6 ∨ c % 13 = 7 ∨ c % 13 = 8 ∨ c % 13 = 9 ∨ c % 13 = 10 ∨ c % 13 = 11 ∨ c % 13 = 12 := by omega
    have smx : ∀ o, Same H (upd H3 p5 o) := fun o => Same.new sm h5
    rcases hm with z | z | z | z | z | z | z | z | z | z | z | z | z <;> rw [z]
    · exact rd_ixL (SqL.of upd_same) rfl (q _ _ (.inr (.inl ⟨_, rfl⟩)) (smx _))
    · exact rd_ixL (SqL.of upd_same) rfl (q _ _ (.inr (.inl ⟨_, rfl⟩)) (smx _))
    · exact rd_ixL (SqL.of upd_same) rfl (q _ _ (.inr (.inr (.inl rfl))) (smx _))
    · exact rd_ixL (SqL.of upd_same) rfl (q _ _ (.inr (.inr (.inr (.inl ⟨_, rfl⟩)))) (smx _))
    · exact rd_ixL (SqL.of upd_same) rfl (q _ _ (.inr (.inr (.inr (.inl ⟨_, rfl⟩)))) (smx _))
    · exact rd_ixL (SqL.of upd_same) rfl (q _ _ (.inr (.inr (.inr (.inr ⟨_, rfl, .inl ⟨_, upd_old e1' h5⟩⟩)))) (smx _))
    · exact rd_ixL (SqL.of upd_same) rfl (q _ _ (.inr (.inr (.inr (.inr ⟨_, rfl, .inr (.inl ⟨_, upd_old e2' h5⟩)⟩)))) (smx _))
    · exact rd_ixL (SqL.of upd_same) rfl (q _ _ (.inr (.inr (.inr (.inr ⟨_, rfl, .inr (.inr ⟨_, upd_old e3' h5⟩)⟩)))) (smx _))
    · exact rd_ixL (SqL.of upd_same) rfl (q _ _ (.inl ⟨_, rfl, by unfold P60; omega⟩) (smx _))
    · exact rd_ixL (SqL.of upd_same) rfl (q _ _ (.inl ⟨_, rfl, by unfold P60; omega⟩) (smx _))
    · exact rd_ixL (SqL.of upd_same) rfl (q _ _ (.inl ⟨_, rfl, by unfold P60; omega⟩) (smx _))
    · exact rd_ixL (SqL.of upd_same) rfl (q _ _ (.inl ⟨_, rfl, by unfold P60; omega⟩) (smx _))
    · exact rd_ixL (SqL.of upd_same) rfl (q _ _ (.inr (.inr (.inr (.inr ⟨_, rfl, .inl ⟨_, upd_old e4' h5⟩⟩)))) (smx _))
def spSize10 : Sp := fun vs H Q _ => ∃ c : Int, vs = [.int c] ∧ ∀ x H', (OddX H' x ∨ ∃ i : Int, x = .int i ∧ ¬ (0 ≤ i ∧ i ≤ 192)) → Same H H' → Q x H'
theorem ok_size (D : Def K mg "_law_size" s_l_size ["_law_cell"] f fd) (T : Txt K mg cs) : FnOk P w K mg base CX0 1 f fd ["_law_cell"] spSize10 := by
  refine D.F.ok sc_l_size (fun vs H Q E h => ?_) (fun cdv A outer s H vs Q E hr1 h => ?_)
  · obtain ⟨c, rfl, _⟩ := h
    rfl
  · obtain ⟨c, rfl, q⟩ := h
    have nd := sc_l_size.nd
    refine ⟨_, (pss_cons (ps_set (i := 1) nd rfl (Or.inl rfl) (pe_op op_mod (pe_op op_fdiv (pv 0) pe_int) (pe_op op_pow pe_int pe_int)))
      (pss_cons (ps_set (i := 2) nd rfl (Or.inl rfl) (pe_lst (pa_c pe_bl (pa_c pe_bl (pa_c pe_non (pa_c pe_str (pa_c pe_str (pa_c (pe_lst (pa_c pe_int pa_nil)) (pa_c (pe_tup (pa_c pe_int pa_nil)) (pa_c pe_dnewK (pa_c (pe_un un_neg pe_int) (pa_c pe_int (pa_c (pe_op op_sub (pe_un un_neg pe_int) (pv 1)) (pa_c (pe_op op_add pe_int (pv 1)) (pa_c (pe_lst pa_nil) pa_nil)))))))))))))))
      (pss_one (ps_ret (pe_ix ix_list (pv 2) (pe_op op_mod (pv 0) pe_int) (fun _ _ => rfl)))))), ?_⟩
    tm_at "rd"
    rw [p40]
    have g0 := Int.emod_nonneg (c / 13) (show P40 ≠ 0 by decide)
    generalize c / 13 % P40 = g at g0
    refine ⟨(by show 1 ≤ sizeLine; decide), fun p1 h1 => ?_⟩
    tm_at "rd"
    refine ⟨(by show 1 ≤ sizeLine; decide), fun p2 h2 => ?_⟩
    tm_at "rd"
    intro p3 h3
    tm_at "rd"
    refine ⟨(by show 0 ≤ sizeLine; decide), fun p4 h4 => ?_⟩
    tm_at "rd"
    refine ⟨(by show 13 ≤ sizeLine; decide), fun p5 h5 => ?_⟩
    tm_at "rd"
    have e1' := upd_old (u := .lst []) (upd_old (u := .dK []) (upd_old (u := .tup [.int 8]) (show upd H p1 (.lst [.int 8]) p1 = some (.lst [.int 8]) from upd_same) h2) h3) h4
    have e2' := upd_old (u := .lst []) (upd_old (u := .dK []) (show upd (upd H p1 (.lst [.int 8])) p2 (.tup [.int 8]) p2 = some (.tup [.int 8]) from upd_same) h3) h4
    have e3' := upd_old (u := .lst []) (show upd (upd (upd H p1 (.lst [.int 8])) p2 (.tup [.int 8])) p3 (.dK []) p3 = some (.dK []) from upd_same) h4
    have e4' : upd (upd (upd (upd H p1 (.lst [.int 8])) p2 (.tup [.int 8])) p3 (.dK [])) p4 (.lst []) p4 = some (.lst []) := upd_same
    have sm : Same H (upd (upd (upd (upd H p1 (.lst [.int 8])) p2 (.tup [.int 8])) p3 (.dK [])) p4 (.lst [])) := Same.new (Same.new (Same.new (Same.new (Same.refl H) h1) h2) h3) h4
    generalize upd (upd (upd (upd H p1 (.lst [.int 8])) p2 (.tup [.int 8])) p3 (.dK [])) p4 (.lst []) = H3 at h5 e1' e2' e3' e4' sm
    have m0 := Int.emod_nonneg c (show (13 : Int) ≠ 0 by decide)
    have m1 := Int.emod_lt_of_pos c (show (0 : Int) < 13 by decide)
    have hm : c % 13 = 0 ∨ c % 13 = 1 ∨ c % 13 = 2 ∨ c % 13 = 3 ∨ c % 13 = 4 ∨ c % 13 = 5 ∨ c % 13 = 6 ∨ c % 13 = 7 ∨ c % 13 = 8 ∨ c % 13 = 9 ∨ c % 13 = 10 ∨ c % 13 = 11 ∨ c % 13 = 12 := by omega
    have smx : ∀ o, Same H (upd H3 p5 o) := fun o => Same.new sm h5
    rcases hm with z | z | z | z | z | z | z | z | z | z | z | z | z <;> rw [z]
    · exact rd_ixL (SqL.of upd_same) rfl (q _ _ (.inl (.inl ⟨_, rfl⟩)) (smx _))
    · exact rd_ixL (SqL.of upd_same) rfl (q _ _ (.inl (.inl ⟨_, rfl⟩)) (smx _))
    · exact rd_ixL (SqL.of upd_same) rfl (q _ _ (.inl (.inr (.inl rfl))) (smx _))
    · exact rd_ixL (SqL.of upd_same) rfl (q _ _ (.inl (.inr (.inr (.inl ⟨_, rfl⟩)))) (smx _))
    · exact rd_ixL (SqL.of upd_same) rfl (q _ _ (.inl (.inr (.inr (.inl ⟨_, rfl⟩)))) (smx _))
    · exact rd_ixL (SqL.of upd_same) rfl (q _ _ (.inl (.inr (.inr (.inr ⟨_, rfl, .inl ⟨_, upd_old e1' h5⟩⟩)))) (smx _))
    · exact rd_ixL (SqL.of upd_same) rfl (q _ _ (.inl (.inr (.inr (.inr ⟨_, rfl, .inr (.inl ⟨_, upd_old e2' h5⟩)⟩)))) (smx _))
    · exact rd_ixL (SqL.of upd_same) rfl (q _ _ (.inl (.inr (.inr (.inr ⟨_, rfl, .inr (.inr ⟨_, upd_old e3' h5⟩)⟩)))) (smx _))
    · exact rd_ixL (SqL.of upd_same) rfl (q _ _ (.inr ⟨_, rfl, by omega⟩) (smx _))
    · exact rd_ixL (SqL.of upd_same) rfl (q _ _ (.inr ⟨_, rfl, by omega⟩) (smx _))
    · exact rd_ixL (SqL.of upd_same) rfl (q _ _ (.inr ⟨_, rfl, by omega⟩) (smx _))
    · exact rd_ixL (SqL.of upd_same) rfl (q _ _ (.inr ⟨_, rfl, by omega⟩) (smx _))
    · exact rd_ixL (SqL.of upd_same) rfl (q _ _ (.inl (.inr (.inr (.inr ⟨_, rfl, .inl ⟨_, upd_old e4' h5⟩⟩)))) (smx _))
def spSett2 (K : PySem.W.Frag) : Sp := fun vs H Q _ => ∃ (a b : Addr) (t : Seats) (ds : List Int), vs = [.ref a, .ref b] ∧ H a = some (.lst (svs t)) ∧ SqL K H b (ds.map V.int) ∧ Fit t ∧ (who t).Perm ds ∧ ∀ H', Same H H' → Q (.bl true) H'
theorem svs_last {s : Seats} (h : 0 < s.length) : atI (svs s) (-1) = some (sv (sat s (s.length - 1))) := by
  unfold atI ixN
  rw [if_neg (by decide), if_pos (by rw [svs_len]; omega)]
  show (svs s)[((-1 : Int) + ((svs s).length : Int)).toNat]? = _
  rw [svs_len, show ((-1 : Int) + (s.length : Int)).toNat = s.length - 1 by omega, List.getElem?_map, sat_get (by omega)]
  rfl
theorem svs_prev {s : Seats} {i : Nat} (h : i < s.length) : atI (svs s) ((i : Int) - 1) = some (sv (sat s (prv s.length i))) := by
  by_cases z : i = 0
  · subst z
    rw [show (((0 : Nat) : Int) - 1) = -1 by decide, svs_last h]
    unfold prv
    rw [if_pos rfl]
  · have : ((i : Int) - 1) = ((i - 1 : Nat) : Int) := by omega
    rw [this, svs_at (by omega)]
    unfold prv
    rw [if_neg z]
theorem prv_far {n i a : Nat} (ha : a < n) (hi : i < n) : ((i : Int) - 1 - (a : Int)) % (n : Int) = (dist n a (prv n i) : Int) := by
  by_cases z : i = 0
  · subst z
    have hp : n - 1 < n := by omega
    have h := far_eq ha hp
    unfold prv
    rw [if_pos rfl, ← h]
    have : (((0 : Nat) : Int) - 1 - (a : Int)) = ((n - 1 : Nat) : Int) - (a : Int) - (n : Int) := by omega
    rw [this, Int.sub_emod_right]
  · have h := far_eq ha (show i - 1 < n by omega)
    unfold prv
    rw [if_neg z, ← h]
    congr 1
    omega
theorem ok_sett2 (D : Def K mg "_law_settled" s_l_settled ["_law_seats", "_law_guests"] f fd) (T : Txt K mg cs) : FnOk P w K mg base CX0 2 f fd ["_law_seats", "_law_guests"] (spSett2 K) := by
  obtain ⟨f1, fd1, D_l_home⟩ := T.d_l_home
  have G_l_home : FnOk P w K mg base CX0 1 f1 fd1 _ _ := ok_l_home D_l_home T
  obtain ⟨f3, fd3, D_l_whole⟩ := T.d_l_whole
  have G_l_whole : FnOk P w K mg base CX0 1 f3 fd3 _ _ := ok_whole D_l_whole T
  refine D.F.ok sc_l_settled (fun vs H Q E h => ?_) (fun cdv A outer s H vs Q E hr1 h => ?_)
  · obtain ⟨a, b, t, ds, rfl, _⟩ := h
    rfl
  · obtain ⟨a, b, t, ds, rfl, hH, hB, Ft, hp, q⟩ := h
    have St := Ft.st
    obtain ⟨l8, l256, l34⟩ := Ft.len
    have hl : t.length ≤ 1024 := by omega
    have hdl : ds.length = (who t).length := hp.length_eq.symm
    have h192 := Ft.le
    have nd := sc_l_settled.nd
    have hu0 : (A.deeper (PyProof.Rows.envOfC "_law_settled" (defScope s_l_settled) s.heap.objs.size f cdv)).units < cLine := Nat.lt_of_succ_lt (hu_of hr1)
    refine ⟨_, (pss_cons (ps_set (i := 2) nd rfl (Or.inl rfl) pe_int)
      (pss_cons (ps_while PassesOwn.never (pt_cmpR op_gt (pe_op op_mul pe_int (pe_b call_len_seq T.n_len PySem.boot_len (pa_c (pv 1) pa_nil))) (pe_op op_mul pe_int (pv 2)) (nomark _)) (pss_one (ps_set (i := 2) nd rfl (Or.inl rfl) (pe_op op_mul (pv 2) pe_int))))
      (pss_cons (ps_if ((pw_or (pt_not (pt_val (pe_b call_isinst T.n_isinstance PyProof.Rows.boot_isinstance (pa_c (pv 0) (pa_c (pe_ty T.n_list PyProof.Rows.boot_list) pa_nil))))) (pw_or (pt_cmpR op_ne (pe_b call_len_seq T.n_len PySem.boot_len (pa_c (pv 0) pa_nil)) (pv 2) (nomark _)) (pw_or1 (pt_cmpR op_notIn_seq pe_non (pv 0) (by with_unfolding_all rfl)))))).pt (pss_one (ps_ret pe_bl)) pss_nil)
      (pss_cons (ps_for PassesOwn.never rfl (pi_range1 rfl T.n_range (pa_c (pv 2) pa_nil)) (pg_name (i := 3) nd rfl (Or.inl rfl)) (pss_one (ps_if (pt_cmpR op_notN (pe_ix ix_list (pv 0) (pv 3) (fun _ _ => rfl)) pe_non (nomark _)) (pss_cons (ps_if (pt_not (pt_val (pe_def D_l_whole G_l_whole hr1 (pa_c (pe_ix ix_list (pv 0) (pv 3) (fun _ _ => rfl)) pa_nil)))) (pss_one (ps_ret pe_bl)) pss_nil)
      (pss_cons (ps_set (i := 4) nd rfl (Or.inl rfl) (pe_op op_mod (pe_op op_sub (pv 3) (pe_def D_l_home G_l_home hr1 (pa_c (pe_ix ix_list (pv 0) (pv 3) (fun _ _ => rfl)) (pa_c (pv 2) pa_nil)))) (pv 2)))
      (pss_cons (ps_if ((pw_and (pt_cmpR op_gt (pv 4) pe_int (nomark _)) (pw_and1 (pt_cmpR op_isN (pe_ix ix_list (pv 0) (pe_op op_sub (pv 3) pe_int) (fun _ _ => rfl)) pe_non (nomark _))))).pt (pss_one (ps_ret pe_bl)) pss_nil)
      (pss_one (ps_if (pt_cmpR op_gt (pv 4) pe_int (nomark _)) (pss_cons (ps_set (i := 5) nd rfl (Or.inl rfl) (pe_op op_add (pe_op op_mod (pe_op op_sub (pe_op op_sub (pv 3) pe_int) (pe_def D_l_home G_l_home hr1 (pa_c (pe_ix ix_list (pv 0) (pe_op op_sub (pv 3) pe_int) (fun _ _ => rfl)) (pa_c (pv 2) pa_nil)))) (pv 2)) pe_int))
      (pss_one (ps_if ((pw_or (pt_cmpR op_lt (pv 5) (pv 4) (nomark _)) (pw_or1 ((pw_and (pt_cmpR op_eq (pv 5) (pv 4) (nomark _)) (pw_and1 (pt_cmpR op_ge (pe_ix ix_list (pv 0) (pe_op op_sub (pv 3) pe_int) (fun _ _ => rfl)) (pe_ix ix_list (pv 0) (pv 3) (fun _ _ => rfl)) (nomark _))))).pt))).pt (pss_one (ps_ret pe_bl)) pss_nil))) pss_nil))))) pss_nil)))
      (pss_one (ps_ret (pe_cmpR (op_eqL hu0) (pe_b call_sortedA T.n_sorted PyProof.Rows.boot_sorted (pa_c (pe_comp rfl (N' := ["_law_guest"]) (own := 1) (fr := []) (show BlkScope ["_law_seats", "_law_guests", "_law_many", "_law_at", "_law_way", "_law_before"] (defScope s_l_settled) _ _ _ _ from by tm_at "blk_is") (pi_list (pv 0)) (fun _ _ _ _ _ => (pg_name (i := 0) (show (["_law_guest"] : List Str).Nodup from by decide) rfl (Or.inl rfl) (Or.inr rfl))) (fun _ _ _ _ _ => (pifs_one (pt_cmpR op_notN (pv 0) pe_non (nomark _)))) (fun _ _ _ _ _ => (pv 0))) pa_nil)) (pe_b call_sortedA T.n_sorted PyProof.Rows.boot_sorted (pa_c (pv 1) pa_nil)) (nomark _)))))))), ?_⟩
    tm_at "rd"
    refine ⟨fun m σ H' => H = H' ∧ ∃ r : Nat, σ = [some (.ref a), some (.ref b), some (.int (r : Int)), none, none, none] ∧ (r = 8 ∨ r = 16 ∨ r = 32 ∨ r = 64 ∨ r = 128 ∨ r = 256) ∧ (r = 8 ∨ 3 * r < 8 * ds.length) ∧ m = 512 - r, ⟨_, rfl, 8, rfl, .inl rfl, .inl rfl, rfl⟩, ?_⟩
    rintro m σ H0 ⟨rfl, r, rfl, hr, hlr, rfl⟩
    tm_at "rd"
    refine ⟨_, _, rfl, .inl hB, ?_⟩
    rw [List.length_map]
    tm_at "rd"
    refine iteD (fun hc => ?_) (fun hc => ?_)
    · refine ⟨_, fun _ _ h => h, ?_⟩
      tm_at "rd"
      refine ⟨512 - 2 * r, by omega, rfl, 2 * r, ?_, by omega, by omega, rfl⟩
      have e : (r : Int) * 2 = ((2 * r : Nat) : Int) := by omega
      rw [e]
      rfl
    have er : r = t.length := by
      rw [Ft.rm, ← hdl]
      unfold rmF
      (repeat' split) <;> omega
    subst er
    tm_at "rd"
    refine ⟨_, _, _, _, rfl, .lst hH, T.k_list_list, ?_⟩
    tm_at "rd"
    refine iteF ?_
    tm_at "rd"
    refine ⟨_, _, rfl, .inl (SqL.of hH), ?_⟩
    rw [svs_len]
    tm_at "rd"
    refine iteN (fun z => absurd rfl z) (fun _ => ?_)
    tm_at "rd"
    refine rd_notIn (SqL.of hH) rfl (svs_flat _) ?_
    rw [inV_non]
    tm_at "rd"
    refine iteN (fun z => absurd (settled_none St) z) (fun _ => ?_)
    tm_at "rd"
    refine rd_exR (by omega) (by omega) ?_
    rw [Int.toNat_natCast]
    refine for_range (fun i σ H' => H = H' ∧ ∃ v3 v4 v5, σ = [some (.ref a), some (.ref b), some (.int (t.length : Int)), v3, v4, v5]) ⟨rfl, _, _, _, rfl⟩ ?_ ?_
    · rintro i σ H' hi ⟨rfl, v3, v4, v5, rfl⟩
      have n0 : 0 < t.length := by omega
      tm_at "rd"
      rw [Int.zero_add]
      refine rd_ixL (SqL.of hH) (svs_at hi) ?_
      tm_at "rd"
      cases hs : sat t i with
      | none =>
        refine iteN (fun z => absurd rfl z) (fun _ => ?_)
        tm_at "rd"
        exact ⟨rfl, _, _, _, rfl⟩
      | some g =>
        rw [sv_some]
        refine iteN (fun _ => ?_) (fun z => nomatch z)
        tm_at "rd"
        refine rd_ixL (SqL.of hH) (svs_at hi) ?_
        rw [hs, sv_some]
        tm_at "rd"
        refine iteF ?_
        tm_at "rd"
        refine rd_ixL (SqL.of hH) (svs_at hi) ?_
        rw [hs, sv_some]
        tm_at "rd"
        rw [far_eq (hm_lt n0 g) hi]
        refine iteD (fun h1 => ?_) (fun h1 => ?_)
        · have hne : hm t.length g ≠ i := fun z => by rw [z, dist_self] at h1; exact absurd h1 (by decide)
          obtain ⟨g', hg', ha⟩ := St.loc i g hi hs hne
          tm_at "rd"
          refine rd_ixL (SqL.of hH) (svs_prev hi) ?_
          rw [hg', sv_some]
          tm_at "rd"
          refine iteDF (fun z => nomatch z) ?_
          tm_at "rd"
          refine iteDT h1 ?_
          tm_at "rd"
          refine rd_ixL (SqL.of hH) (svs_prev hi) ?_
          rw [hg', sv_some]
          tm_at "rd"
          rw [prv_far (hm_lt n0 g') hi]
          have hdp := dist_prv (hm_lt n0 g) hi (Ne.symm hne)
          unfold Ahead at ha
          refine iteD (fun h2 => ?_) (fun h2 => ?_)
          · exfalso
            omega
          · tm_at "rd"
            refine iteD (fun h3 => ?_) (fun h3 => ?_)
            · tm_at "rd"
              refine rd_ixL (SqL.of hH) (svs_prev hi) ?_
              rw [hg', sv_some]
              tm_at "rd"
              refine rd_ixL (SqL.of hH) (svs_at hi) ?_
              rw [hs, sv_some]
              tm_at "rd"
              refine iteDF (by omega) ?_
              tm_at "rd"
              exact ⟨rfl, _, _, _, rfl⟩
            · refine iteF ?_
              tm_at "rd"
              exact ⟨rfl, _, _, _, rfl⟩
        · refine iteF ?_
          tm_at "rd"
          refine iteDF h1 ?_
          tm_at "rd"
          exact ⟨rfl, _, _, _, rfl⟩
    · rintro σ H' ⟨rfl, v3, v4, v5, rfl⟩
      tm_at "rd"
      refine ⟨a, rfl, ⟨_, SqL.of hH⟩, ?_⟩
      refine comp_gen (own := 1) (fr := []) (n := t.length) (p := fun i => (sat t i).isSome) (f := fun i => .int ((sat t i).getD 0)) (S := fun σ => ∃ v, σ = [v]) ⟨_, rfl⟩ (Nat.le_trans hl (by decide)) (fun i H' x H'' _ _ y => ?_) (fun i σ H' hi hσ sm => ?_) (fun H' sm => ?_) (fun l H1 hl0 sm hH1 => ?_)
      · obtain ⟨rfl, _⟩ := y
        exact Same.refl _
      · obtain ⟨v, rfl⟩ := hσ
        have hg : (svs t)[i]? = some (sv (sat t i)) := by
          rw [List.getElem?_map, sat_get hi]
          rfl
        refine ⟨⟨_, _, SqL.of (sm _ _ hH), hg⟩, ?_⟩
        rintro x H'' ⟨rfl, hx⟩ R R0 h1 h0
        have hx' := hx _ (SqL.of (sm _ _ hH))
        rw [hg] at hx'
        cases hx'
        tm_at "rd"
        cases hs : sat t i with
        | none =>
          refine iteN (fun z => absurd rfl z) (fun _ => ?_)
          exact h0 (by rw [hs]; rfl) _ _ ⟨_, rfl⟩ (Same.refl _)
        | some g =>
          rw [sv_some]
          refine iteN (fun _ => ?_) (fun z => nomatch z)
          tm_at "rd"
          have := h1 (by rw [hs]; rfl) [some (.int g)] H'' ⟨_, rfl⟩ (Same.refl _)
          simp only [hs] at this
          exact this
      · exact ⟨_, SqL.of (sm _ _ hH), by rw [svs_len]; exact Nat.le_refl _⟩
      · have hW : ((List.range t.length).filter fun i => (sat t i).isSome).map (fun i => V.int ((sat t i).getD 0)) = (who t).map V.int := by
          rw [← who_range t, List.map_map]
          rfl
        rw [hW] at hH1
        have hwl : (who t).length ≤ 1024 := by omega
        tm_at "rd"
        refine ⟨l, _, rfl, SqL.of hH1, hwl, fun l2 n2 hl2 pm2 so2 => ?_⟩
        have s2 : Same H1 (upd H1 l2 (.lst (n2.map V.int))) := Same.new (Same.refl H1) hl2
        tm_at "rd"
        refine ⟨b, _, rfl, s2.seq (sm.seq hB), by omega, fun l3 n3 hl3 pm3 so3 => ?_⟩
        have s3 : Same H1 (upd (upd H1 l2 (.lst (n2.map V.int))) l3 (.lst (n3.map V.int))) := Same.new s2 hl3
        refine ⟨l2, l3, _, _, rfl, rfl, SqL.of (upd_old upd_same hl3), SqL.of upd_same, ints_flat _, ints_flat _, ?_⟩
        have e23 : n2 = n3 := sorted_eq (pm2.trans (hp.trans pm3.symm)) so2 so3
        rw [eqVs_ints, decide_eq_true e23]
        exact q _ (sm.trans s3)
def spSits (C : Addr) : Sp := fun vs H Q _ => ∃ (p : Addr) (m : Int) (t : Seats) (g : Int), vs = [.ref p, .int g] ∧ HouseAt C H p m t ∧ Fit t ∧ m ≤ 192 ∧ 0 ≤ g ∧ g < P60 ∧ g ∉ who t ∧ ((who t).length : Int) < m ∧
  ∀ (t' : Seats) (H' : Hp), Frm p H H' → HouseAt C H' p m t' → Fit t' → (who t').Perm (g :: who t) → Q (.bl true) H'
theorem ok_sits (D : Def K mg "_law_sits" s_l_sits ["_law_house_here", "_law_guest"] f fd) (T : Txt K mg cs) : FnOk P w K mg base CX0 9 f fd ["_law_house_here", "_law_guest"] (spSits cs.House) := by
  obtain ⟨f1, fd1, H_come⟩ := T.h_come
  have G_come : FnOk P w K mg base (CXr P w) 8 f1 fd1 _ _ := ok_hcome H_come T
  obtain ⟨f2, fd2, H_row⟩ := T.h_row
  have G_row : FnOk P w K mg base CX0 8 f2 fd2 _ _ := (ok_hrow H_row T).mono (by decide)
  obtain ⟨f3, fd3, D_l_whole⟩ := T.d_l_whole
  have G_l_whole : FnOk P w K mg base CX0 8 f3 fd3 _ _ := (ok_whole D_l_whole T).mono (by decide)
  obtain ⟨f4, fd4, H_seat_of⟩ := T.h_seat_of
  have G_seat_of : FnOk P w K mg base (CXr P w) 8 f4 fd4 _ _ := (ok_hseat H_seat_of T).mono (by decide)
  refine D.F.ok sc_l_sits (fun vs H Q E h => ?_) (fun cdv A outer s H vs Q E hr1 h => ?_)
  · obtain ⟨p, m, t, g, rfl, _⟩ := h
    rfl
  · obtain ⟨p, m, t, g, rfl, hA, F, hmm, g0, g1, hg, hn, q⟩ := h
    have nd := sc_l_sits.nd
    obtain ⟨dx, l, h1, h2⟩ := hA.ob
    refine ⟨_, (pss_cons (ps_set (i := 2) nd rfl (Or.inl rfl) (pe_methN T.cl_House H_come G_come hr1 (pv 0) (pa_c (pv 1) pa_nil)))
      (pss_cons (ps_set (i := 3) nd rfl (Or.inl rfl) (pe_methD0 T.cl_House H_row G_row hr1 (pv 0)))
      (pss_one (ps_ret (pe_and (pe_def D_l_whole G_l_whole hr1 (pa_c (pv 2) pa_nil)) (pe_and (pe_chain op_le op_lt pe_int (pv 2) (pe_b call_len_seq T.n_len PySem.boot_len (pa_c (pv 3) pa_nil))) (pe_and (pe_cmpR op_eq (pe_ix ix_list (pv 3) (pv 2) (fun _ _ => rfl)) (pv 1) (nomark _)) (pe_one (pe_cmpR op_eq (pe_methN T.cl_House H_seat_of G_seat_of hr1 (pv 0) (pa_c (pv 1) pa_nil)) (pv 2) (nomark _)))))))))), ?_⟩
    tm_at "rd"
    refine ⟨p, dx, _, rfl, h1, hf_no (by decide +kernel) (by decide +kernel), ?_⟩
    tm_at "rd"
    refine .inr ⟨p, m, t, g, rfl, hA, F, hmm, g0, g1, fun z => absurd z hg, fun _ z => by omega, fun _ _ t' H1 fr hA' F' pp => ?_⟩
    obtain ⟨i, hi, hs, e⟩ := place_in F'.st (pp.mem_iff.mpr (List.mem_cons_self ..))
    rw [e]
    obtain ⟨dy, ly, y1, y2⟩ := hA'.ob
    tm_at "rd"
    refine ⟨p, dy, _, rfl, y1, hf_no (by decide +kernel) (by decide +kernel), ?_⟩
    tm_at "rd"
    refine ⟨p, m, t', rfl, hA', fun lr hlr => ?_⟩
    have s2 : Same H1 (upd H1 lr (.lst (svs t'))) := Same.new (Same.refl H1) hlr
    have hl2 : upd H1 lr (.lst (svs t')) lr = some (.lst (svs t')) := upd_same
    generalize upd H1 lr (.lst (svs t')) = H2 at s2 hl2
    tm_at "rd"
    refine iteT ?_
    tm_at "rd"
    refine iteDT (by omega) ?_
    tm_at "rd"
    refine ⟨_, _, rfl, .inl (SqL.of hl2), ?_⟩
    rw [svs_len]
    tm_at "rd"
    refine iteDT (by omega) ?_
    tm_at "rd"
    refine rd_ixL (SqL.of hl2) (svs_at hi) ?_
    rw [hs, sv_some]
    tm_at "rd"
    refine iteDT rfl ?_
    tm_at "rd"
    refine ⟨p, dy, _, rfl, s2 _ _ y1, hf_no (by decide +kernel) (by decide +kernel), ?_⟩
    tm_at "rd"
    refine .inl ⟨p, m, t', g, rfl, hA'.same s2, F'.none, g0, g1, ?_⟩
    rw [e]
    tm_at "rd"
    rw [decide_eq_true rfl]
    exact q t' H2 (fr.trans (Frm.of s2)) (hA'.same s2) F' pp
def spThere (K : PySem.W.Frag) (C : Addr) : Sp := fun vs H Q _ => ∃ (p a : Addr) (m : Int) (t : Seats) (ds : List Int), vs = [.ref p, .ref a] ∧ HouseAt C H p m t ∧ Fit t ∧ SqL K H a (ds.map V.int) ∧ (who t).Perm ds ∧ ∀ H', Same H H' → Q (.bl true) H'
theorem ok_there (D : Def K mg "_law_there" s_l_there ["_law_house_here", "_law_guests"] f fd) (T : Txt K mg cs) : FnOk P w K mg base CX0 9 f fd ["_law_house_here", "_law_guests"] (spThere K cs.House) := by
  obtain ⟨f1, fd1, H_many⟩ := T.h_many
  have G_many : FnOk P w K mg base CX0 8 f1 fd1 _ _ := (ok_hmany H_many T).mono (by decide)
  obtain ⟨f2, fd2, H_guests⟩ := T.h_guests
  have G_guests : FnOk P w K mg base CX0 8 f2 fd2 _ _ := (ok_hguests H_guests T).mono (by decide)
  obtain ⟨f3, fd3, D_l_whole⟩ := T.d_l_whole
  have G_l_whole : FnOk P w K mg base CX0 8 f3 fd3 _ _ := (ok_whole D_l_whole T).mono (by decide)
  refine D.F.ok sc_l_there (fun vs H Q E h => ?_) (fun cdv A outer s H vs Q E hr1 h => ?_)
  · obtain ⟨p, a, m, t, ds, rfl, _⟩ := h
    rfl
  · obtain ⟨p, a, m, t, ds, rfl, hA, F, hS, hp, q⟩ := h
    have nd := sc_l_there.nd
    have hu0 : (A.deeper (PyProof.Rows.envOfC "_law_there" (defScope s_l_there) s.heap.objs.size f cdv)).units < cLine := Nat.lt_of_succ_lt (hu_of hr1)
    obtain ⟨dx, l, h1, h2⟩ := hA.ob
    obtain ⟨l8, l256, _⟩ := F.len
    have h192 := F.le
    refine ⟨_, (pss_cons (ps_set (i := 2) nd rfl (Or.inl rfl) (pe_methD0 T.cl_House H_many G_many hr1 (pv 0)))
      (pss_cons (ps_set (i := 3) nd rfl (Or.inl rfl) (pe_methD0 T.cl_House H_guests G_guests hr1 (pv 0)))
      (pss_cons (ps_if ((pw_or (pt_not (pt_val (pe_def D_l_whole G_l_whole hr1 (pa_c (pv 2) pa_nil)))) (pw_or (pt_cmpR op_ne (pv 2) (pe_b call_len_seq T.n_len PySem.boot_len (pa_c (pv 1) pa_nil)) (nomark _)) (pw_or1 (pt_not (pt_val (pe_b call_isinst T.n_isinstance PyProof.Rows.boot_isinstance (pa_c (pv 3) (pa_c (pe_ty T.n_list PyProof.Rows.boot_list) pa_nil))))))))).pt (pss_one (ps_ret pe_bl)) pss_nil)
      (pss_cons (ps_for PassesOwn.never rfl (pi_list (pv 3)) (pg_name (i := 4) nd rfl (Or.inl rfl)) (pss_one (ps_if (pt_not (pt_val (pe_def D_l_whole G_l_whole hr1 (pa_c (pv 4) pa_nil)))) (pss_one (ps_ret pe_bl)) pss_nil)))
      (pss_one (ps_ret (pe_cmpR (op_eqL hu0) (pv 3) (pe_b call_sortedA T.n_sorted PyProof.Rows.boot_sorted (pa_c (pv 1) pa_nil)) (nomark _)))))))), ?_⟩
    tm_at "rd"
    refine ⟨p, dx, _, rfl, h1, hf_no (by decide +kernel) (by decide +kernel), ?_⟩
    tm_at "rd"
    refine ⟨p, m, t, rfl, hA, by omega, fun H1 s1 => ?_⟩
    tm_at "rd"
    refine ⟨p, dx, _, rfl, s1 _ _ h1, hf_no (by decide +kernel) (by decide +kernel), ?_⟩
    tm_at "rd"
    refine ⟨p, m, t, rfl, hA.same s1, by omega, by omega, fun lf fs H2 s2 hlf0 hlf pm so => ?_⟩
    have s02 := s1.trans s2
    tm_at "rd"
    refine iteF ?_
    tm_at "rd"
    refine ⟨_, _, rfl, .inl (s02.seq hS), ?_⟩
    rw [List.length_map]
    tm_at "rd"
    refine iteN (fun z => absurd (by rw [hp.length_eq]) z) (fun _ => ?_)
    tm_at "rd"
    refine ⟨_, _, _, _, rfl, .lst hlf, T.k_list_list, ?_⟩
    tm_at "rd"
    refine iteF ?_
    tm_at "rd"
    refine ⟨lf, rfl, ⟨_, SqL.of hlf⟩, for_list (xs := fs.map V.int) (fun i σ H' => H2 = H' ∧ ∃ v4, σ = [some (.ref p), some (.ref a), some (.int ((who t).length : Int)), some (.ref lf), v4]) ⟨rfl, _, rfl⟩ (fun i σ H' _ h => by rw [← h.1]; exact SqL.of hlf) ?_ ?_⟩
    · rintro i x σ H' hx ⟨rfl, v4, rfl⟩
      obtain ⟨z, _, rfl⟩ := List.mem_map.mp (List.mem_of_getElem? hx)
      tm_at "rd"
      refine iteF ?_
      tm_at "rd"
      exact ⟨rfl, _, rfl⟩
    · rintro σ H' ⟨rfl, v4, rfl⟩
      tm_at "rd"
      refine ⟨a, ds, rfl, s02.seq hS, by rw [← hp.length_eq]; omega, fun lo os hlo pmo soo => ?_⟩
      have s3 : Same H2 (upd H2 lo (.lst (os.map V.int))) := Same.new (Same.refl H2) hlo
      refine ⟨lf, lo, _, _, rfl, rfl, SqL.of (s3 _ _ hlf), SqL.of upd_same, ints_flat _, ints_flat _, ?_⟩
      have e : fs = os := sorted_eq (pm.trans (hp.trans pmo.symm)) so soo
      rw [eqVs_ints, decide_eq_true e]
      exact q _ (s02.trans s3)
def spNoGuest (C : Addr) : Sp := fun vs H Q _ => ∃ (p : Addr) (m : Int) (t : Seats) (x : V), vs = [.ref p, x] ∧ HouseAt C H p m t ∧ BadX H x ∧ ∀ H', Same H H' → Q (.bl true) H'
theorem fl6_flat (i : Nat) : (fl6 i).all flatV = true := rfl
theorem fl6_eq : ∀ i j : Nat, i ≤ 4 → j ≤ 4 → eqVs (fl6 i) (fl6 j) = decide (i = j) := by
  intro i j hi hj
  have a : i = 0 ∨ i = 1 ∨ i = 2 ∨ i = 3 ∨ i = 4 := by omega
  have b : j = 0 ∨ j = 1 ∨ j = 2 ∨ j = 3 ∨ j = 4 := by omega
  rcases a with rfl | rfl | rfl | rfl | rfl <;> rcases b with rfl | rfl | rfl | rfl | rfl <;> rfl
theorem BadX.same {H H' : Hp} {x : V} (h : BadX H x) (s : Same H H') : BadX H' x := by
  rcases h with h | h
  · exact .inl h
  · exact .inr (h.same s)
theorem BadX.frm {H H' : Hp} {x : V} {p : Addr} (h : BadX H x) (f : Frm p H H') (hp : ∃ C dx fs, H p = some (.ins C dx fs)) : BadX H' x := by
  rcases h with h | h
  · exact .inl h
  · exact .inr (h.frm f hp)
theorem ok_no_guest (D : Def K mg "_law_no_guest" s_l_no_guest ["_law_house_here", "_law_thing"] f fd) (T : Txt K mg cs) : FnOk P w K mg base CX0 10 f fd ["_law_house_here", "_law_thing"] (spNoGuest cs.House) := by
  obtain ⟨f1, fd1, D_l_only⟩ := T.d_l_only
  have G_l_only : FnOk P w K mg base CX0 9 f1 fd1 _ _ := (ok_only D_l_only T).mono (by decide)
  obtain ⟨f2, fd2, D_l_comes⟩ := T.d_l_comes
  have G_l_comes : FnOk P w K mg base (CXr P w) 9 f2 fd2 _ _ := ok_comes D_l_comes T
  obtain ⟨f3, fd3, D_l_goes⟩ := T.d_l_goes
  have G_l_goes : FnOk P w K mg base (CXr P w) 9 f3 fd3 _ _ := ok_goes D_l_goes T
  obtain ⟨f4, fd4, D_l_looked_for⟩ := T.d_l_looked_for
  have G_l_looked_for : FnOk P w K mg base (CXr P w) 9 f4 fd4 _ _ := ok_looked D_l_looked_for T
  refine D.F.ok sc_l_no_guest (fun vs H Q E h => ?_) (fun cdv A outer s H vs Q E hr1 h => ?_)
  · obtain ⟨p, m, t, x, rfl, _⟩ := h
    rfl
  · obtain ⟨p, m, t, x, rfl, hA, hx, q⟩ := h
    have nd := sc_l_no_guest.nd
    have hu0 : (A.deeper (PyProof.Rows.envOfC "_law_no_guest" (defScope s_l_no_guest) s.heap.objs.size f cdv)).units < cLine := Nat.lt_of_succ_lt (hu_of hr1)
    refine ⟨_, (pss_cons (ps_set (i := 2) nd rfl (Or.inl rfl) (pe_def D_l_only G_l_only hr1 (pa_c pe_int pa_nil)))
      (pss_one (ps_ret (pe_and (pe_cmpR (op_eqL hu0) (pe_defN D_l_comes G_l_comes hr1 (pa_c (pv 0) (pa_c (pv 1) pa_nil))) (pv 2) (nomark _)) (pe_and (pe_cmpR (op_eqL hu0) (pe_defN D_l_goes G_l_goes hr1 (pa_c (pv 0) (pa_c (pv 1) pa_nil))) (pv 2) (nomark _)) (pe_one (pe_cmpR (op_eqL hu0) (pe_defN D_l_looked_for G_l_looked_for hr1 (pa_c (pv 0) (pa_c (pv 1) pa_nil))) (pv 2) (nomark _)))))))), ?_⟩
    tm_at "rd"
    refine ⟨0, rfl, by decide, fun ld H1 s1 hd1 => ?_⟩
    tm_at "rd"
    refine .inl ⟨p, m, t, x, rfl, hA.same s1, hx.same s1, fun l2 H2 s2 hl2 => ?_⟩
    tm_at "rd"
    refine ⟨l2, ld, _, _, rfl, rfl, SqL.of hl2, SqL.of (s2 _ _ hd1), fl6_flat _, fl6_flat _, ?_⟩
    rw [fl6_eq 0 0 (by decide) (by decide)]
    tm_at "rd"
    refine iteDT rfl ?_
    have s02 := s1.trans s2
    tm_at "rd"
    refine .inl ⟨p, m, t, x, rfl, hA.same s02, hx.same s02, fun l3 H3 s3 hl3 => ?_⟩
    tm_at "rd"
    refine ⟨l3, ld, _, _, rfl, rfl, SqL.of hl3, SqL.of (s3 _ _ (s2 _ _ hd1)), fl6_flat _, fl6_flat _, ?_⟩
    rw [fl6_eq 0 0 (by decide) (by decide)]
    tm_at "rd"
    refine iteDT rfl ?_
    have s03 := s02.trans s3
    tm_at "rd"
    refine ⟨p, m, t, x, rfl, hA.same s03, hx.same s03, fun l4 H4 s4 hl4 => ?_⟩
    tm_at "rd"
    refine ⟨l4, ld, _, _, rfl, rfl, SqL.of hl4, SqL.of (s4 _ _ (s3 _ _ (s2 _ _ hd1))), fl6_flat _, fl6_flat _, ?_⟩
    rw [fl6_eq 0 0 (by decide) (by decide), decide_eq_true rfl]
    exact q H4 (s03.trans s4)
def spMost10 : Sp := fun vs H Q _ => ∃ c : Int, vs = [.int c] ∧ ∀ (L : Int) (H' : Hp), 0 ≤ L → L ≤ 192 → (c % 4 = 1 → L = 96) → Same H H' → Q (.int L) H'
theorem ok_most10 (D : Def K mg "_law_most" s_l_most ["_law_cell"] f fd) (T : Txt K mg cs) : FnOk P w K mg base CX0 1 f fd ["_law_cell"] spMost10 := by
  refine D.F.ok sc_l_most (fun vs H Q E h => ?_) (fun cdv A outer s H vs Q E hr1 h => ?_)
  · obtain ⟨c, rfl, _⟩ := h
    rfl
  · obtain ⟨c, rfl, q⟩ := h
    have nd := sc_l_most.nd
    refine ⟨_, (pss_cons (ps_if (pt_cmpR op_eq (pe_op op_mod (pv 0) pe_int) pe_int (nomark _)) (pss_one (ps_ret pe_int)) pss_nil)
      (pss_cons (ps_if ((pw_and (pt_cmpR op_eq (pe_op op_mod (pv 0) pe_int) pe_int (nomark _)) (pw_and1 (pt_cmpR op_eq (pe_op op_mod (pe_op op_fdiv (pv 0) pe_int) pe_int) pe_int (nomark _))))).pt (pss_one (ps_ret (pe_ix ix_list (pe_lst (pa_ints (by rfl))) (pe_op op_mod (pe_op op_fdiv (pv 0) pe_int) pe_int) (fun _ _ => rfl)))) pss_nil)
      (pss_cons (ps_if (pt_cmpR op_eq (pe_op op_mod (pv 0) pe_int) pe_int (nomark _)) (pss_one (ps_ret (pe_op op_mod (pe_op op_fdiv (pv 0) pe_int) pe_int))) pss_nil)
      (pss_one (ps_ret (pe_op op_mod (pe_op op_fdiv (pv 0) pe_int) pe_int)))))), ?_⟩
    have b1 := Int.emod_nonneg (c / 8) (show (193 : Int) ≠ 0 by decide)
    have b2 := Int.emod_lt_of_pos (c / 8) (show (0 : Int) < 193 by decide)
    have c1 := Int.emod_nonneg (c / 4) (show (13 : Int) ≠ 0 by decide)
    have c2 := Int.emod_lt_of_pos (c / 4) (show (0 : Int) < 13 by decide)
    have m0 := Int.emod_nonneg (c / 8) (show (6 : Int) ≠ 0 by decide)
    have m1 := Int.emod_lt_of_pos (c / 8) (show (0 : Int) < 6 by decide)
    tm_at "rd"
    refine iteD (fun h1 => ?_) (fun h1 => ?_)
    · tm_at "rd"
      exact q 96 H (by decide) (by decide) (fun _ => rfl) (Same.refl H)
    have third : ∀ (Q' : VK), (∀ L, 0 ≤ L → L ≤ 192 → Q' (.int L) H) → True := fun _ _ => True.intro
    tm_at "rd"
    refine iteD (fun h2 => ?_) (fun h2 => ?_)
    · tm_at "rd"
      refine iteD (fun h3 => ?_) (fun h3 => ?_)
      · tm_at "rd"
        refine ⟨(by show 6 ≤ sizeLine; decide), fun lm hlm => ?_⟩
        tm_at "rd"
        have sm : Same H (upd H lm (.lst [.int 97, .int 49, .int 25, .int 13, .int 7, .int 192])) := Same.new (Same.refl H) hlm
        have hm6 : c / 8 % 6 = 0 ∨ c / 8 % 6 = 1 ∨ c / 8 % 6 = 2 ∨ c / 8 % 6 = 3 ∨ c / 8 % 6 = 4 ∨ c / 8 % 6 = 5 := by omega
        rcases hm6 with z | z | z | z | z | z <;> rw [z] <;> exact rd_ixL (SqL.of upd_same) rfl (q _ _ (by decide) (by decide) (fun e => absurd e h1) sm)
      · tm_at "rd"
        refine iteDT h2 ?_
        tm_at "rd"
        exact q _ H b1 (by omega) (fun e => absurd e h1) (Same.refl H)
    · refine iteF ?_
      tm_at "rd"
      refine iteDF h2 ?_
      tm_at "rd"
      exact q _ H c1 (by omega) (fun e => absurd e h1) (Same.refl H)
def spHouse10 (C : Addr) : Sp := fun vs H Q _ => ∃ c L : Int, vs = [.int c, .int L] ∧ 0 ≤ L ∧ L ≤ 192 ∧ (c % 4 = 1 → L = 96) ∧ ∀ (p : Addr) (H' : Hp), H p = none → Same H H' → HouseAt C H' p L (List.replicate 8 none) → Q (.ref p) H'
theorem ok_house10 (D : Def K mg "_law_house" s_l_house ["_law_cell", "_law_limit"] f fd) (T : Txt K mg cs) : FnOk P w K mg base CX0 5 f fd ["_law_cell", "_law_limit"] (spHouse10 cs.House) := by
  obtain ⟨f1, fd1, H_init⟩ := T.h_init
  have G_init : FnOk P w K mg base (CXr P w) 3 f1 fd1 _ _ := ok_hinit H_init T
  refine D.F.ok sc_l_house (fun vs H Q E h => ?_) (fun cdv A outer s H vs Q E hr1 h => ?_)
  · obtain ⟨c, L, rfl, _⟩ := h
    rfl
  · obtain ⟨c, L, rfl, L0, L1, hL, q⟩ := h
    have nd := sc_l_house.nd
    have new : ∀ {x dx : Addr} {H' : Hp}, H x = none → H dx = none → Frm x (upd (upd H dx (.own x)) x (.ins cs.House dx [])) H' → Same H H' := fun {x dx H'} hx hdx fr b o e => by
      have n1 : b ≠ x := fun z => by rw [z, hx] at e; cases e
      have n2 : b ≠ dx := fun z => by rw [z, hdx] at e; cases e
      exact fr b o n1 (by rw [upd_ne n1, upd_ne n2]; exact e)
    refine ⟨_, (pss_cons (ps_if (pt_cmpR op_eq (pe_op op_mod (pv 0) pe_int) pe_int (nomark _)) (pss_one (ps_ret (pe_makeN0 H_init G_init hr1 T.m_House))) pss_nil)
      (pss_cons (ps_if (pt_cmpR op_eq (pe_op op_mod (pv 0) pe_int) pe_int (nomark _)) (pss_one (ps_ret (pe_makeK H_init G_init hr1 T.m_House (pv 1)))) pss_nil)
      (pss_one (ps_ret (pe_makeN H_init G_init hr1 T.m_House (pa_c (pv 1) pa_nil)))))), ?_⟩
    tm_at "rd"
    refine iteD (fun h1 => ?_) (fun h1 => ?_)
    · have e := hL h1
      tm_at "rd"
      intro x dx hx hdx hne
      exact .inl ⟨x, dx, 96, rfl, upd_same, by decide, by decide, fun H' fr hA => ⟨rfl, q x H' hx (new hx hdx fr) (by rw [e]; exact hA)⟩⟩
    · tm_at "rd"
      refine iteD (fun h2 => ?_) (fun h2 => ?_)
      · tm_at "rd"
        refine ⟨_, rfl, fun x dx hx hdx hne => ?_⟩
        exact .inl ⟨x, dx, L, rfl, upd_same, L0, L1, fun H' fr hA => ⟨rfl, q x H' hx (new hx hdx fr) hA⟩⟩
      · tm_at "rd"
        intro x dx hx hdx hne
        exact .inl ⟨x, dx, L, rfl, upd_same, L0, L1, fun H' fr hA => ⟨rfl, q x H' hx (new hx hdx fr) hA⟩⟩
theorem nodup_range {f : Nat → Int} {n : Nat} (h : ∀ i j, i < j → j < n → f i ≠ f j) : ((List.range n).map f).Nodup := by
  unfold List.Nodup
  rw [List.pairwise_map]
  exact List.Pairwise.imp_of_mem (fun {a b} _ hb hlt => h a b hlt (List.mem_range.mp hb)) List.pairwise_lt_range
def P59 : Int := 100000000000000000000000000000000000000000000000000000000000
theorem p59 : (10 : Int) ^ (59 : Int).toNat = P59 := by decide +kernel
def P50 : Int := 100000000000000000000000000000000000000000000000000
theorem p50 : (10 : Int) ^ (50 : Int).toNat = P50 := by decide +kernel
def P57 : Int := 1000000000000000000000000000000000000000000000000000000000
def spAll (K : PySem.W.Frag) : Sp := fun vs H Q _ => ∃ (c b : Int) (L : Nat), vs = [.int c, .int b, .int (L : Int)] ∧ 0 ≤ b ∧ b < P59 ∧ L ≤ 192 ∧ ∀ (l : Addr) (gs : List Int) (H' : Hp), Same H H' → H l = none → H' l = some (.lst (gs.map V.int)) → gs.Nodup → Gs gs → gs.length = L + 1 → Q (.ref l) H'
theorem ok_all (D : Def K mg "_law_all" s_l_all ["_law_cell", "_law_first", "_law_limit"] f fd) (T : Txt K mg cs) : FnOk P w K mg base CX0 1 f fd ["_law_cell", "_law_first", "_law_limit"] (spAll K) := by
  refine D.F.ok sc_l_all (fun vs H Q E h => ?_) (fun cdv A outer s H vs Q E hr1 h => ?_)
  · obtain ⟨c, b, L, rfl, _⟩ := h
    rfl
  · obtain ⟨c, b, L, rfl, b0, b1, hL, q⟩ := h
    have nd := sc_l_all.nd
    have e60 : P60 = 1000000000000000000000000000000000000000000000000000000000000 := rfl
    have e59 : P59 = 100000000000000000000000000000000000000000000000000000000000 := rfl
    have e57 : P57 = 1000000000000000000000000000000000000000000000000000000000 := rfl
    have e50 : P50 = 100000000000000000000000000000000000000000000000000 := rfl
    have e40 : P40 = 10000000000000000000000000000000000000000 := rfl
    refine ⟨_, (pss_cons (ps_set (i := 3) nd rfl (Or.inr rfl) (pe_ix ix_list (pe_lst (pa_c pe_int (pa_c pe_int (pa_c pe_int (pa_c (pe_op op_add pe_int (pe_op op_mod (pe_op op_fdiv (pv 0) pe_int) (pe_op op_pow pe_int pe_int))) pa_nil))))) (pe_op op_mod (pv 0) pe_int) (fun _ _ => rfl)))
      (pss_cons (ps_set (i := 4) nd rfl (Or.inr rfl) (pe_op op_add pe_int (pe_op op_mod (pe_op op_fdiv (pv 0) pe_int) pe_int)))
      (pss_cons (ps_join (ps_if (pt_cmpR op_le (pv 2) pe_int (nomark _)) (pss_one (ps_set (i := 4) nd rfl (Or.inr rfl) pe_int)) (pss_one (ps_if (pt_cmpR op_eq (pe_op op_mod (pv 0) pe_int) pe_int (nomark _)) (pss_one (ps_set (i := 3) nd rfl (Or.inr rfl) (pe_op op_add (pe_op op_mul pe_int pe_int) (pe_op op_mul (pe_op op_pow pe_int pe_int) (pe_op op_add pe_int (pe_op op_mod (pe_op op_fdiv (pv 0) pe_int) (pe_op op_pow pe_int pe_int))))))) pss_nil))))
      (pss_cons (ps_if (pt_cmpR op_eq (pe_op op_mod (pv 0) pe_int) pe_int (nomark _)) (pss_one (ps_ret (pe_comp rfl (N' := ["_law_k", "_law_first", "_law_crowd"]) (own := 1) (fr := [1, 4]) (show BlkScope ["_law_cell", "_law_first", "_law_limit", "_law_step", "_law_crowd"] (defScope s_l_all) _ _ _ _ from by tm_at "blk_is") (pi_range1 rfl T.n_range (pa_c (pe_op op_add (pv 2) pe_int) pa_nil)) (fun _ _ _ _ _ => (pg_name (i := 0) (show (["_law_k", "_law_first", "_law_crowd"] : List Str).Nodup from by decide) rfl (Or.inl rfl) (Or.inr rfl))) (fun _ _ _ _ _ => pifs_nil) (fun _ _ _ _ _ => (pe_op op_add (pe_op op_add (pv 1) (pe_op op_mul (pe_op op_mul pe_int (pv 2)) (pe_op op_fdiv (pv 0) (pv 2)))) (pe_op op_mul (pe_op op_pow pe_int pe_int) (pe_op op_mod (pv 0) (pv 2)))))))) pss_nil)
      (pss_one (ps_ret (pe_comp rfl (N' := ["_law_k", "_law_first", "_law_step"]) (own := 1) (fr := [1, 3]) (show BlkScope ["_law_cell", "_law_first", "_law_limit", "_law_step", "_law_crowd"] (defScope s_l_all) _ _ _ _ from by tm_at "blk_is") (pi_range1 rfl T.n_range (pa_c (pe_op op_add (pv 2) pe_int) pa_nil)) (fun _ _ _ _ _ => (pg_name (i := 0) (show (["_law_k", "_law_first", "_law_step"] : List Str).Nodup from by decide) rfl (Or.inl rfl) (Or.inr rfl))) (fun _ _ _ _ _ => pifs_nil) (fun _ _ _ _ _ => (pe_op op_add (pv 1) (pe_op op_mul (pv 0) (pv 2))))))))))), ?_⟩
    tm_at "rd"
    rw [p50]
    have f0 := Int.emod_nonneg (c / 4) (show P50 ≠ 0 by decide)
    have f1 := Int.emod_lt_of_pos (c / 4) (show 0 < P50 by decide)
    generalize c / 4 % P50 = x50 at f0 f1
    refine ⟨(by show 4 ≤ sizeLine; decide), fun lm hlm => ?_⟩
    have s1 : Same H (upd H lm (.lst [.int 65536, .int 0, .int 1, .int (1 + x50)])) := Same.new (Same.refl H) hlm
    have hm1 : upd H lm (.lst [.int 65536, .int 0, .int 1, .int (1 + x50)]) lm = some (.lst [.int 65536, .int 0, .int 1, .int (1 + x50)]) := upd_same
    generalize upd H lm (.lst [.int 65536, .int 0, .int 1, .int (1 + x50)]) = H1 at s1 hm1
    tm_at "rd"
    have m0 := Int.emod_nonneg c (show (4 : Int) ≠ 0 by decide)
    have m1 := Int.emod_lt_of_pos c (show (0 : Int) < 4 by decide)
    have hst : ∃ st : Int, atI [V.int 65536, .int 0, .int 1, .int (1 + x50)] (c % 4) = some (.int st) ∧ (c % 4 ≠ 1 → 1 ≤ st ∧ st ≤ P57) := by
      have h4 : c % 4 = 0 ∨ c % 4 = 1 ∨ c % 4 = 2 ∨ c % 4 = 3 := by omega
      rcases h4 with z | z | z | z <;> rw [z]
      · exact ⟨65536, rfl, fun _ => ⟨by decide, by decide⟩⟩
      · exact ⟨0, rfl, fun z => absurd rfl z⟩
      · exact ⟨1, rfl, fun _ => ⟨by decide, by decide⟩⟩
      · exact ⟨1 + x50, rfl, fun _ => ⟨by omega, by omega⟩⟩
    obtain ⟨st, hat, hst⟩ := hst
    refine rd_ixL (SqL.of hm1) hat ?_
    have g0 := Int.emod_nonneg (c / 4) (show (8 : Int) ≠ 0 by decide)
    have g1 := Int.emod_lt_of_pos (c / 4) (show (0 : Int) < 8 by decide)
    have k0 := Int.emod_nonneg (c / 4) (show P40 ≠ 0 by decide)
    have k1 := Int.emod_lt_of_pos (c / 4) (show 0 < P40 by decide)
    tm_at "rd"
    refine rd_join (fun σ H' => H1 = H' ∧ ∃ st cr : Int, σ = [some (.int c), some (.int b), some (.int (L : Int)), some (.int st), some (.int cr)] ∧ (c % 4 ≠ 1 → 1 ≤ st ∧ st ≤ P57) ∧ 1 ≤ cr ∧ cr ≤ 25) ?_ ?_
    · tm_at "rd"
      refine iteD (fun _ => ?_) (fun _ => ?_)
      · tm_at "rd"
        exact ⟨rfl, st, 25, rfl, hst, by decide, by decide⟩
      · tm_at "rd"
        refine iteD (fun _ => ?_) (fun _ => ?_)
        · tm_at "rd"
          refine ⟨rfl, 3 * 65536 + 2 ^ (32 : Int).toNat * (1 + c / 4 % 10 ^ (40 : Int).toNat), 1 + c / 4 % 8, rfl, fun _ => ?_, by omega, by omega⟩
          rw [p32, p40]
          omega
        · tm_at "rd"
          exact ⟨rfl, st, 1 + c / 4 % 8, rfl, hst, by omega, by omega⟩
    · rintro σ H' ⟨rfl, st, cr, rfl, hst, r0, r1⟩
      tm_at "rd"
      refine iteD (fun h1 => ?_) (fun h1 => ?_)
      · tm_at "rd"
        refine rd_exR (by omega) (by omega) ?_
        rw [show ((L : Int) + 1).toNat = L + 1 by omega]
        have val : ∀ k : Nat, k < L + 1 → ∃ A R : Int, (k : Int) / cr = A ∧ (k : Int) % cr = R ∧ cr * A + R = (k : Int) ∧ 0 ≤ R ∧ R < cr ∧ 0 ≤ cr * A ∧ cr * A ≤ 192 := fun k hk => by
          have e := Int.mul_ediv_add_emod (k : Int) cr
          have e0 := Int.emod_nonneg (k : Int) (show cr ≠ 0 by omega)
          have e1 := Int.emod_lt_of_pos (k : Int) (show 0 < cr by omega)
          have e2 : 0 ≤ (k : Int) / cr := Int.ediv_nonneg (by omega) (by omega)
          have e3 : 0 ≤ cr * ((k : Int) / cr) := Int.mul_nonneg (by omega) e2
          exact ⟨_, _, rfl, rfl, e, e0, e1, e3, by omega⟩
        refine comp_gen (own := 1) (fr := [1, 4]) (n := L + 1) (p := fun _ => true) (f := fun k => .int (b + 65536 * cr * ((k : Int) / cr) + 4294967296 * ((k : Int) % cr))) (S := fun σ => ∃ v, σ = [v, some (.int b), some (.int cr)]) ⟨_, rfl⟩ (Nat.le_trans (show L + 1 ≤ 1024 by omega) (by decide)) (fun j H' x H'' _ _ y => ?_) (fun j σ H' hj hσ sm => ?_) (fun H' sm => ?_) (fun l H2 hl0 sm hH2 => ?_)
        · obtain ⟨rfl, _⟩ := y
          exact Same.refl _
        · obtain ⟨v, rfl⟩ := hσ
          refine ⟨hj, ?_⟩
          rintro x H'' ⟨rfl, rfl⟩ R R0 h1' h0'
          tm_at "rd"
          refine iteT ?_
          tm_at "rd"
          rw [Int.zero_add]
          have fin := h1' rfl [some (.int (j : Int)), some (.int b), some (.int cr)] H'' ⟨_, rfl⟩ (Same.refl _)
          refine rd_i ⟨by omega, by omega⟩ ?_
          refine rd_i (.inl ⟨by omega, by omega⟩) ?_
          tm_at "rd"
          show _
          rw [p32]
          exact fin
        · exact Nat.le_refl _
        · have hg : ((List.range (L + 1)).filter fun _ => true).map (fun k : Nat => V.int (b + 65536 * cr * ((k : Int) / cr) + 4294967296 * ((k : Int) % cr))) = ((List.range (L + 1)).map fun k : Nat => b + 65536 * cr * ((k : Int) / cr) + 4294967296 * ((k : Int) % cr)).map V.int := by
            rw [List.filter_eq_self.mpr (fun _ _ => rfl), List.map_map]
            rfl
          rw [hg] at hH2
          refine q l _ H2 (s1.trans sm) (s1.free hl0) hH2 (nodup_range fun i j hij hj => ?_) (fun g hgm => ?_) (by rw [List.length_map, List.length_range])
          · obtain ⟨A, R, a1, a2, a3, a4, a5, a6, a7⟩ := val i (by omega)
            obtain ⟨A', R', c1, c2, c3, c4, c5, c6, c7⟩ := val j hj
            rw [a1, a2, c1, c2, Int.mul_assoc, Int.mul_assoc]
            generalize cr * A = u at a3 a6 a7
            generalize cr * A' = u' at c3 c6 c7
            omega
          · obtain ⟨k, hk, rfl⟩ := List.mem_map.mp hgm
            obtain ⟨A, R, a1, a2, a3, a4, a5, a6, a7⟩ := val k (List.mem_range.mp hk)
            rw [a1, a2, Int.mul_assoc]
            generalize cr * A = u at a3 a6 a7
            omega
      · obtain ⟨t0, t1⟩ := hst h1
        tm_at "rd"
        refine rd_exR (by omega) (by omega) ?_
        rw [show ((L : Int) + 1).toNat = L + 1 by omega]
        refine comp_gen (own := 1) (fr := [1, 3]) (n := L + 1) (p := fun _ => true) (f := fun k => .int (b + (k : Int) * st)) (S := fun σ => ∃ v, σ = [v, some (.int b), some (.int st)]) ⟨_, rfl⟩ (Nat.le_trans (show L + 1 ≤ 1024 by omega) (by decide)) (fun j H' x H'' _ _ y => ?_) (fun j σ H' hj hσ sm => ?_) (fun H' sm => ?_) (fun l H2 hl0 sm hH2 => ?_)
        · obtain ⟨rfl, _⟩ := y
          exact Same.refl _
        · obtain ⟨v, rfl⟩ := hσ
          refine ⟨hj, ?_⟩
          rintro x H'' ⟨rfl, rfl⟩ R R0 h1' h0'
          tm_at "rd"
          refine iteT ?_
          tm_at "rd"
          rw [Int.zero_add]
          have fin := h1' rfl [some (.int (j : Int)), some (.int b), some (.int st)] H'' ⟨_, rfl⟩ (Same.refl _)
          refine rd_i (.inl ⟨by omega, by omega⟩) ?_
          tm_at "rd"
          exact fin
        · exact Nat.le_refl _
        · have hg : ((List.range (L + 1)).filter fun _ => true).map (fun k : Nat => V.int (b + (k : Int) * st)) = ((List.range (L + 1)).map fun k : Nat => b + (k : Int) * st).map V.int := by
            rw [List.filter_eq_self.mpr (fun _ _ => rfl), List.map_map]
            rfl
          rw [hg] at hH2
          refine q l _ H2 (s1.trans sm) (s1.free hl0) hH2 (nodup_range fun i j hij hj => ?_) (fun g hgm => ?_) (by rw [List.length_map, List.length_range])
          · have := Int.mul_lt_mul_of_pos_right (show (i : Int) < (j : Int) by omega) (show 0 < st by omega)
            omega
          · obtain ⟨k, hk, rfl⟩ := List.mem_map.mp hgm
            have hk' := List.mem_range.mp hk
            have a1 : (k : Int) * st ≤ 192 * st := Int.mul_le_mul_of_nonneg_right (by omega) (by omega)
            have a2 : 0 ≤ (k : Int) * st := Int.mul_nonneg (by omega) (by omega)
            generalize (k : Int) * st = u at a1 a2
            omega
theorem range_filter (ds : List Int) (p : Int → Bool) : ((List.range ds.length).filter fun i => p (ds.getD i 0)).map (fun i => V.int (ds.getD i 0)) = (ds.filter p).map V.int := by
  have e : ds = (List.range ds.length).map (fun i => ds.getD i 0) := by
    refine List.ext_getElem (by simp) fun i h1 h2 => ?_
    simp [List.getD, h1]
  conv => rhs; rw [e, List.filter_map, List.map_map]
  rfl
theorem drop_perm10 {ns : List Int} (hn : ns.Nodup) {g : Int} (h : g ∈ ns) : ns.Perm (g :: ns.filter fun y => decide (y ≠ g)) := by
  have e : ns.erase g = ns.filter fun y => decide (y ≠ g) := by
    rw [List.Nodup.erase_eq_filter hn]
    refine List.filter_congr fun y _ => ?_
    by_cases z : y = g <;> simp [z]
  rw [← e]
  exact List.perm_cons_erase h
theorem ix_svs {t : Seats} (hnd : (who t).Nodup) {p : Nat} {g : Int} (hp : p < t.length) (hs : sat t p = some g) : (∃ z, (svs t)[p]? = some z ∧ eqV z (.int g) = true) ∧ ∀ m z, m < p → (svs t)[m]? = some z → eqV z (.int g) = false := by
  refine ⟨⟨.int g, by rw [List.getElem?_map, sat_get hp, hs]; rfl, by simp [eqV]⟩, fun m z hm hz => ?_⟩
  rw [List.getElem?_map, sat_get (by omega)] at hz
  cases hz
  cases e : sat t m with
  | none => rfl
  | some y =>
    show decide (y = g) = false
    refine decide_eq_false fun z => ?_
    subst z
    exact sat_once hnd hm hp e hs
theorem rd_st {t : TS} {D : Ends} {σ σ' : St} {H : Hp} (e : σ = σ') (q : t D σ' H) : t D σ H := e ▸ q
theorem ok_law (F : Fun K "law" "law" s_law f fd) (T : Txt K mg cs) : FnOk P w K mg base CXL lawK f fd ["_law_script"] (spLaw K) := by
  obtain ⟨f1, fd1, D_l_cell_at⟩ := T.d_l_cell_at
  obtain ⟨f2, fd2, D_l_most⟩ := T.d_l_most
  obtain ⟨f3, fd3, D_l_made⟩ := T.d_l_made
  obtain ⟨f4, fd4, D_l_size⟩ := T.d_l_size
  obtain ⟨f5, fd5, D_l_only⟩ := T.d_l_only
  obtain ⟨f6, fd6, D_l_house⟩ := T.d_l_house
  obtain ⟨f7, fd7, D_l_all⟩ := T.d_l_all
  obtain ⟨f8, fd8, D_l_odd⟩ := T.d_l_odd
  obtain ⟨f9, fd9, D_l_sits⟩ := T.d_l_sits
  obtain ⟨f10, fd10, H_row⟩ := T.h_row
  obtain ⟨f11, fd11, D_l_settled⟩ := T.d_l_settled
  obtain ⟨f12, fd12, D_l_goes⟩ := T.d_l_goes
  obtain ⟨f13, fd13, D_l_comes⟩ := T.d_l_comes
  obtain ⟨f14, fd14, D_l_no_guest⟩ := T.d_l_no_guest
  obtain ⟨f15, fd15, H_seat_of⟩ := T.h_seat_of
  obtain ⟨f16, fd16, D_l_there⟩ := T.d_l_there
  obtain ⟨f17, fd17, H_go⟩ := T.h_go
  have G_l_cell_at : FnOk P w K mg base CX0 13 f1 fd1 _ _ := (ok_cell D_l_cell_at T).mono (by decide)
  have G_l_most : FnOk P w K mg base CX0 13 f2 fd2 _ _ := (ok_most10 D_l_most T).mono (by decide)
  have G_l_made : FnOk P w K mg base (CXr P w) 13 f3 fd3 _ _ := (ok_made D_l_made T).mono (by decide)
  have G_l_size : FnOk P w K mg base CX0 13 f4 fd4 _ _ := (ok_size D_l_size T).mono (by decide)
  have G_l_only : FnOk P w K mg base CX0 13 f5 fd5 _ _ := (ok_only D_l_only T).mono (by decide)
  have G_l_house : FnOk P w K mg base CX0 13 f6 fd6 _ _ := (ok_house10 D_l_house T).mono (by decide)
  have G_l_all : FnOk P w K mg base CX0 13 f7 fd7 _ _ := (ok_all D_l_all T).mono (by decide)
  have G_l_odd : FnOk P w K mg base CX0 13 f8 fd8 _ _ := (ok_odd10 D_l_odd T).mono (by decide)
  have G_l_sits : FnOk P w K mg base CX0 13 f9 fd9 _ _ := (ok_sits D_l_sits T).mono (by decide)
  have G_row : FnOk P w K mg base CX0 13 f10 fd10 _ _ := (ok_hrow H_row T).mono (by decide)
  have G_l_settled : FnOk P w K mg base CX0 13 f11 fd11 _ _ := (ok_sett2 D_l_settled T).mono (by decide)
  have G_l_goes : FnOk P w K mg base (CXr P w) 13 f12 fd12 _ _ := (ok_goes D_l_goes T).mono (by decide)
  have G_l_comes : FnOk P w K mg base (CXr P w) 13 f13 fd13 _ _ := (ok_comes D_l_comes T).mono (by decide)
  have G_l_no_guest : FnOk P w K mg base CX0 13 f14 fd14 _ _ := (ok_no_guest D_l_no_guest T).mono (by decide)
  have G_seat_of : FnOk P w K mg base (CXr P w) 13 f15 fd15 _ _ := (ok_hseat H_seat_of T).mono (by decide)
  have G_l_there : FnOk P w K mg base CX0 13 f16 fd16 _ _ := (ok_there D_l_there T).mono (by decide)
  have G_go : FnOk P w K mg base (CXr P w) 13 f17 fd17 _ _ := (ok_hgo H_go T).mono (by decide)
  refine F.ok sc_law (fun vs H Q E h => ?_) (fun cdv A outer s H vs Q E hr1 h => ?_)
  · obtain ⟨a, ns, rfl, _⟩ := h
    rfl
  · obtain ⟨a, ns, rfl, hS, hlen, kq⟩ := h
    have nd := sc_law.nd
    have hu0 : (A.deeper (PyProof.Rows.envOfC "law" (defScope s_law) s.heap.objs.size f cdv)).units < cLine := Nat.lt_of_succ_lt (hu_of hr1)
    refine ⟨_, (pss_cons (ps_set (i := 1) nd rfl (Or.inl rfl) (pe_def D_l_most G_l_most hr1 (pa_c (pe_def D_l_cell_at G_l_cell_at hr1 (pa_c (pv 0) (pa_c pe_int pa_nil))) pa_nil)))
      (pss_cons (ps_if (pt_cmpR (op_neL hu0) (pe_defN D_l_made G_l_made hr1 (pa_c (pe_def D_l_size G_l_size hr1 (pa_c (pe_def D_l_cell_at G_l_cell_at hr1 (pa_c (pv 0) (pa_c pe_int pa_nil))) pa_nil)) pa_nil)) (pe_def D_l_only G_l_only hr1 (pa_c pe_int pa_nil)) (nomark _)) (pss_one (ps_ret pe_bl)) pss_nil)
      (pss_cons (ps_set (i := 2) nd rfl (Or.inl rfl) (pe_def D_l_house G_l_house hr1 (pa_c (pe_def D_l_cell_at G_l_cell_at hr1 (pa_c (pv 0) (pa_c pe_int pa_nil))) (pa_c (pv 1) pa_nil))))
      (pss_cons (ps_set (i := 3) nd rfl (Or.inl rfl) (pe_def D_l_all G_l_all hr1 (pa_c (pe_def D_l_cell_at G_l_cell_at hr1 (pa_c (pv 0) (pa_c pe_int pa_nil))) (pa_c (pe_op op_mod (pe_def D_l_cell_at G_l_cell_at hr1 (pa_c (pv 0) (pa_c pe_int pa_nil))) (pe_op op_pow pe_int pe_int)) (pa_c (pv 1) pa_nil)))))
      (pss_cons (ps_set (i := 4) nd rfl (Or.inl rfl) (pe_def D_l_odd G_l_odd hr1 (pa_c (pe_def D_l_cell_at G_l_cell_at hr1 (pa_c (pv 0) (pa_c pe_int pa_nil))) pa_nil)))
      (pss_cons (ps_set (i := 5) nd rfl (Or.inl rfl) (pe_bm0 PySem.F.plainAttrs_list PySem.F.slot_list_pop PySem.F.type_list_pop mt_pop (pv 3)))
      (pss_cons (ps_for PassesOwn.never rfl (pi_list (pv 3)) (pg_name (i := 6) nd rfl (Or.inl rfl)) (pss_one (ps_if (pt_not (pt_val (pe_def D_l_sits G_l_sits hr1 (pa_c (pv 2) (pa_c (pv 6) pa_nil))))) (pss_one (ps_ret pe_bl)) pss_nil)))
      (pss_cons (ps_set (i := 7) nd rfl (Or.inl rfl) (pe_methD0 T.cl_House H_row G_row hr1 (pv 2)))
      (pss_cons (ps_if (pt_not (pt_val (pe_def D_l_settled G_l_settled hr1 (pa_c (pv 7) (pa_c (pv 3) pa_nil))))) (pss_one (ps_ret pe_bl)) pss_nil)
      (pss_cons (ps_set (i := 8) nd rfl (Or.inl rfl) (pe_lst (pa_c (pe_cmpR (op_eqL hu0) (pe_defN D_l_goes G_l_goes hr1 (pa_c (pv 2) (pa_c (pv 5) pa_nil))) (pe_def D_l_only G_l_only hr1 (pa_c pe_int pa_nil)) (nomark _)) (pa_c (pe_cmpR (op_eqL hu0) (pe_defN D_l_comes G_l_comes hr1 (pa_c (pv 2) (pa_c (pv 5) pa_nil))) (pe_def D_l_only G_l_only hr1 (pa_c pe_int pa_nil)) (nomark _)) pa_nil))))
      (pss_cons (ps_if ((pw_or (pt_cmpR op_in_seq pe_bl (pv 8) (by with_unfolding_all rfl)) (pw_or1 (pt_not (pt_val (pe_def D_l_no_guest G_l_no_guest hr1 (pa_c (pv 2) (pa_c (pv 4) pa_nil)))))))).pt (pss_one (ps_ret pe_bl)) pss_nil)
      (pss_cons (ps_if ((pw_or (pt_cmpR (op_neL hu0) (pe_methD0 T.cl_House H_row G_row hr1 (pv 2)) (pv 7) (nomark _)) (pw_or (pt_cmpR op_notN (pe_methN T.cl_House H_seat_of G_seat_of hr1 (pv 2) (pa_c (pv 5) pa_nil)) pe_non (nomark _)) (pw_or1 (pt_not (pt_val (pe_def D_l_there G_l_there hr1 (pa_c (pv 2) (pa_c (pv 3) pa_nil))))))))).pt (pss_one (ps_ret pe_bl)) pss_nil)
      (pss_cons (ps_if (pt_cmpR op_eq (pv 1) pe_int (nomark _)) (pss_one (ps_ret pe_bl)) pss_nil)
      (pss_cons (ps_set (i := 9) nd rfl (Or.inr rfl) (pe_ix ix_list (pv 3) (pe_op op_mod (pe_def D_l_cell_at G_l_cell_at hr1 (pa_c (pv 0) (pa_c pe_int pa_nil))) (pv 1)) (fun _ _ => rfl)))
      (pss_cons (ps_if ((pw_or (pt_cmpR (op_neL hu0) (pe_defN D_l_comes G_l_comes hr1 (pa_c (pv 2) (pa_c (pv 9) pa_nil))) (pe_def D_l_only G_l_only hr1 (pa_c pe_int pa_nil)) (nomark _)) (pw_or1 (pt_cmpR (op_neL hu0) (pe_methD0 T.cl_House H_row G_row hr1 (pv 2)) (pv 7) (nomark _))))).pt (pss_one (ps_ret pe_bl)) pss_nil)
      (pss_cons (ps_setC (i := 10) nd rfl rfl rfl (N' := ["_law_guest", "_law_gone"]) (own := 1) (fr := [9]) (show BlkScope ["_law_script", "_law_limit", "_law_house_here", "_law_guests", "_law_thing", "_law_last", "_law_guest", "_law_seats", "_law_due", "_law_gone", "_law_left"] (defScope s_law) _ _ _ _ from by tm_at "blk_is") (pi_list (pv 3)) (fun _ _ _ _ _ => (pg_name (i := 0) (show (["_law_guest", "_law_gone"] : List Str).Nodup from by decide) rfl (Or.inl rfl) (Or.inr rfl))) (fun _ _ _ _ _ => (pifs_one (pt_cmpR op_ne (pv 0) (pv 1) (nomark _)))) (fun _ _ _ _ _ => (pv 0)))
      (pss_cons (ps_if ((pw_or (pt_cmpR op_ne (pe_methN T.cl_House H_go G_go hr1 (pv 2) (pa_c (pv 9) pa_nil)) (pe_bm PySem.F.plainAttrs_list PySem.F.slot_list_index PySem.F.type_list_index mt_index (pv 7) (pa_c (pv 9) pa_nil)) (nomark _)) (pw_or1 (pt_cmpR (op_neL hu0) (pe_defN D_l_goes G_l_goes hr1 (pa_c (pv 2) (pa_c (pv 9) pa_nil))) (pe_def D_l_only G_l_only hr1 (pa_c pe_int pa_nil)) (nomark _))))).pt (pss_one (ps_ret pe_bl)) pss_nil)
      (pss_cons (ps_if ((pw_or (pt_not (pt_val (pe_def D_l_settled G_l_settled hr1 (pa_c (pe_methD0 T.cl_House H_row G_row hr1 (pv 2)) (pa_c (pv 10) pa_nil))))) (pw_or (pt_not (pt_val (pe_def D_l_sits G_l_sits hr1 (pa_c (pv 2) (pa_c (pv 5) pa_nil))))) (pw_or1 (pt_cmpR (op_neL hu0) (pe_defN D_l_comes G_l_comes hr1 (pa_c (pv 2) (pa_c (pv 9) pa_nil))) (pe_def D_l_only G_l_only hr1 (pa_c pe_int pa_nil)) (nomark _)))))).pt (pss_one (ps_ret pe_bl)) pss_nil)
      (pss_cons (ps_if (pt_not (pt_val (pe_def D_l_there G_l_there hr1 (pa_c (pv 2) (pa_c (pe_op op_cat (pv 10) (pe_lst (pa_c (pv 5) pa_nil))) pa_nil))))) (pss_one (ps_ret pe_bl)) pss_nil)
      (pss_one (ps_ret (pe_and (pe_cmpR (op_eqL hu0) (pe_defN D_l_goes G_l_goes hr1 (pa_c (pv 2) (pa_c (pv 5) pa_nil))) (pe_lst pa_nil) (nomark _)) (pe_one (pe_def D_l_there G_l_there hr1 (pa_c (pv 2) (pa_c (pv 10) pa_nil)))))))))))))))))))))))))), ?_⟩
    tm_at "rd"
    refine ⟨a, ns, _, rfl, hS, by decide, ?_⟩
    tm_at "rd"
    refine ⟨_, rfl, fun L H1 L0 L1 hL s1 => ?_⟩
    obtain ⟨n, rfl⟩ := Int.eq_ofNat_of_zero_le L0
    have hn : n ≤ 192 := by omega
    tm_at "rd"
    refine ⟨a, ns, _, rfl, s1.seq hS, by decide, ?_⟩
    tm_at "rd"
    refine ⟨_, rfl, fun x H2 hx s2 => ?_⟩
    tm_at "rd"
    refine ⟨x, rfl, hx, fun l1 H3 s3 hl1 => ?_⟩
    tm_at "rd"
    refine ⟨1, rfl, by decide, fun l2 H4 s4 hl2 => ?_⟩
    refine ⟨l1, l2, _, _, rfl, rfl, SqL.of (s4 _ _ hl1), SqL.of hl2, fl6_flat _, fl6_flat _, ?_⟩
    rw [fl6_eq 1 1 (by decide) (by decide)]
    tm_at "rd"
    refine iteN (fun z => absurd rfl z) (fun _ => ?_)
    have s04 : Same H H4 := s1.trans (s2.trans (s3.trans s4))
    tm_at "rd"
    refine ⟨a, ns, _, rfl, s04.seq hS, by decide, ?_⟩
    tm_at "rd"
    refine ⟨_, _, rfl, L0, L1, hL, fun p H5 hp0 s5 hA5 => ?_⟩
    have s05 := s04.trans s5
    tm_at "rd"
    refine ⟨a, ns, _, rfl, s05.seq hS, by decide, ?_⟩
    tm_at "rd"
    refine ⟨a, ns, _, rfl, s05.seq hS, by decide, ?_⟩
    tm_at "rd"
    rw [p59]
    refine ⟨_, _, n, rfl, Int.emod_nonneg _ (by decide), Int.emod_lt_of_pos _ (by decide), hn, fun lg gs H6 s6 hlg0 hg6 hgn hgG hgl => ?_⟩
    tm_at "rd"
    refine ⟨a, ns, _, rfl, (s05.trans s6).seq hS, by decide, ?_⟩
    tm_at "rd"
    refine ⟨_, rfl, fun x5 H7 hx5 s7 => ?_⟩
    have hg7 := s7 _ _ hg6
    have s57 := s6.trans s7
    obtain ⟨ds, la, rfl⟩ : ∃ ds la, gs = ds ++ [la] := by
      rcases List.eq_nil_or_concat gs with z | ⟨ds, la, z⟩
      · rw [z] at hgl; cases hgl
      · exact ⟨ds, la, by rw [z]; simp⟩
    have hdl : ds.length = n := by rw [List.length_append] at hgl; exact Nat.succ.inj hgl
    have hnd := List.nodup_append.mp hgn
    have hdn : ds.Nodup := hnd.1
    have hla : la ∉ ds := fun z => hnd.2.2 la z la (List.mem_singleton.mpr rfl) rfl
    have hdG : Gs ds := fun g hg => hgG g (List.mem_append.mpr (.inl hg))
    obtain ⟨la0, la1⟩ := hgG la (List.mem_append.mpr (.inr (List.mem_singleton.mpr rfl)))
    tm_at "rd"
    refine ⟨rd_tyL rfl (SqL.of hg7), ?_⟩
    refine ⟨lg, _, .int la, rfl, rfl, hg7, ?_, ?_⟩
    · rw [List.map_append, List.length_append, List.getElem?_append_right (by simp)]
      simp
    have edl : ((ds ++ [la]).map V.int).dropLast = ds.map V.int := by rw [List.map_append]; exact List.dropLast_concat
    rw [edl]
    have s58 : Same H5 (upd H7 lg (.lst (ds.map V.int))) := fun b o e => by
      have ne : b ≠ lg := fun z => by rw [z, hlg0] at e; cases e
      rw [upd_ne ne]
      exact s57 _ _ e
    have hg8 : upd H7 lg (.lst (ds.map V.int)) lg = some (.lst (ds.map V.int)) := upd_same
    have hx8 : BadX (upd H7 lg (.lst (ds.map V.int))) x5 := by
      rcases hx5 with z | z | z | z | ⟨aa, rfl, z⟩
      · exact .inl z
      · exact .inr (.inl z)
      · exact .inr (.inr (.inl z))
      · exact .inr (.inr (.inr (.inl z)))
      · refine .inr (.inr (.inr (.inr ⟨aa, rfl, ?_⟩)))
        by_cases e : aa = lg
        · subst e
          exact .inl ⟨_, upd_same⟩
        · rw [upd_ne e]
          exact z
    generalize upd H7 lg (.lst (ds.map V.int)) = H8 at s58 hg8 hx8
    have hA8 := hA5.same s58
    have s08 := s05.trans s58
    have pins : ∃ C dx fs, H8 p = some (.ins C dx fs) := by
      obtain ⟨dx, fs, e⟩ := hA8.ins
      exact ⟨_, dx, fs, e⟩
    have lgp : lg ≠ p := hA8.ne hg8
    tm_at "rd"
    refine ⟨lg, rfl, ⟨_, SqL.of hg8⟩, for_list (xs := ds.map V.int) (fun i σ H' => (∃ v6, σ = [some (.ref a), some (.int (n : Int)), some (.ref p), some (.ref lg), some x5, some (.int la), v6, none, none, none, none]) ∧ Frm p H8 H' ∧ ∃ t, HouseAt cs.House H' p (n : Int) t ∧ Fit t ∧ (who t).Perm (ds.take i))
      ⟨⟨_, rfl⟩, Frm.of (Same.refl _), _, hA8, fit0, by rw [who_rep, List.take_zero]⟩ (fun i σ H' _ h => SqL.of (h.2.1 _ _ lgp hg8)) ?_ ?_⟩
    · rintro i y σ H' hy ⟨⟨v6, rfl⟩, fr, t, hA, Ft, hpm⟩
      rw [List.getElem?_map] at hy
      obtain ⟨g, hgi, rfl⟩ := Option.map_eq_some_iff.mp hy
      have hil := (List.getElem?_eq_some_iff.mp hgi).1
      have hgm : g ∈ ds := List.mem_of_getElem? hgi
      obtain ⟨g0, g1⟩ := hdG g hgm
      have tk := take_succ_get hgi
      have hgt : g ∉ ds.take i := fun z => by
        have := hdn.sublist (List.take_sublist (i + 1) ds)
        rw [tk] at this
        exact (List.nodup_append.mp this).2.2 g z g (List.mem_singleton.mpr rfl) rfl
      have hwl : (who t).length = i := by rw [hpm.length_eq, List.length_take]; omega
      tm_at "rd"
      refine ⟨p, _, t, g, rfl, hA, Ft, L1, g0, g1, fun z => hgt (hpm.mem_iff.mp z), by omega, fun t' H2' fr' hA' Ft' hp' => ?_⟩
      tm_at "rd"
      refine iteF ?_
      tm_at "rd"
      refine ⟨⟨_, rfl⟩, fr.trans fr', t', hA', Ft', ?_⟩
      rw [tk]
      exact hp'.trans ((List.Perm.cons g hpm).trans (List.perm_append_comm (l₁ := [g])))
    · rintro σ H9 ⟨⟨v6, rfl⟩, fr9, t, hA, Ft, hpm⟩
      rw [List.length_map, List.take_length] at hpm
      have hx9 := hx8.frm fr9 pins
      have hg9 := fr9 _ _ lgp hg8
      obtain ⟨dx, l, h1, h2⟩ := hA.ob
      have hwl : (who t).length = n := by rw [hpm.length_eq, hdl]
      have hlt : la ∉ who t := fun z => hla (hpm.mem_iff.mp z)
      have scr : ∀ {Hx : Hp}, Frm p H9 Hx → SqL K Hx a (ns.map V.int) := fun {Hx} f => by
        have k1 : ∀ b o, b ≠ p → H b = some o → Hx b = some o := fun b o ne e => f _ _ ne (fr9 _ _ ne (s08 _ _ e))
        have : Same H Hx := fun b o e => k1 b o (fun z => by
          have e4 := s04 _ _ e
          rw [z, hp0] at e4
          cases e4) e
        exact this.seq hS
      tm_at "rd"
      refine ⟨p, dx, _, rfl, h1, hf_no (by decide +kernel) (by decide +kernel), ?_⟩
      tm_at "rd"
      refine ⟨p, _, t, rfl, hA, fun ls hls => ?_⟩
      have s10 : Same H9 (upd H9 ls (.lst (svs t))) := Same.new (Same.refl H9) hls
      have hl10 : upd H9 ls (.lst (svs t)) ls = some (.lst (svs t)) := upd_same
      generalize upd H9 ls (.lst (svs t)) = H10 at s10 hl10
      have lsp : ls ≠ p := (hA.same s10).ne hl10
      tm_at "rd"
      refine ⟨ls, lg, t, ds, rfl, hl10, SqL.of (s10 _ _ hg9), Ft, hpm, fun H11 s11 => ?_⟩
      tm_at "rd"
      refine iteF ?_
      have s911 := s10.trans s11
      tm_at "rd"
      refine .inr ⟨p, _, t, la, rfl, hA.same s911, Ft, la0, la1, fun _ l3 H12 s12 hl3 => ?_, fun z => absurd z hlt⟩
      tm_at "rd"
      refine ⟨3, rfl, by decide, fun l4 H13 s13 hl4 => ?_⟩
      refine ⟨l3, l4, _, _, rfl, rfl, SqL.of (s13 _ _ hl3), SqL.of hl4, fl6_flat _, fl6_flat _, ?_⟩
      rw [fl6_eq 3 3 (by decide) (by decide)]
      have s913 := s911.trans (s12.trans s13)
      tm_at "rd"
      refine .inr ⟨p, _, t, la, rfl, hA.same s913, Ft, L1, la0, la1, .inr (by omega), fun z => absurd z hlt, fun _ l5 H14 s14 hl5 => ?_⟩
      tm_at "rd"
      refine ⟨4, rfl, by decide, fun l6 H15 s15 hl6 => ?_⟩
      refine ⟨l5, l6, _, _, rfl, rfl, SqL.of (s15 _ _ hl5), SqL.of hl6, fl6_flat _, fl6_flat _, ?_⟩
      rw [fl6_eq 4 4 (by decide) (by decide)]
      have s915 := s913.trans (s14.trans s15)
      tm_at "rd"
      refine ⟨(by show 2 ≤ sizeLine; decide), fun ld hld => ?_⟩
      have s16 : Same H15 (upd H15 ld (.lst [.bl true, .bl true])) := Same.new (Same.refl H15) hld
      have hd16 : upd H15 ld (.lst [.bl true, .bl true]) ld = some (.lst [.bl true, .bl true]) := upd_same
      rw [decide_eq_true (rfl : (3 : Nat) = 3), decide_eq_true (rfl : (4 : Nat) = 4)]
      generalize upd H15 ld (.lst [.bl true, .bl true]) = H16 at s16 hd16
      have s916 := s915.trans s16
      have hl16 := s16 _ _ (s15 _ _ (s14 _ _ (s13 _ _ (s12 _ _ (s11 _ _ hl10)))))
      have hg16 := s916 _ _ hg9
      have hA16 := hA.same s916
      clear s915 s913 s911 s15 s14 s13 s12
      with_reducible refine rd_gname ?_
      refine rd_st (σ' := [some (.ref a), some (.int (n : Int)), some (.ref p), some (.ref lg), some x5, some (.int la), v6, some (.ref ls), some (.ref ld), none, none]) rfl ?_
      tm_at "rd"
      refine rd_in (SqL.of hd16) rfl rfl ?_
      rw [show inV (V.bl false) [V.bl true, V.bl true] = false from rfl]
      tm_at "rd"
      refine iteF ?_
      tm_at "rd"
      refine ⟨p, _, t, x5, rfl, hA16, hx9.same s916, fun H17 s17 => ?_⟩
      tm_at "rd"
      refine iteF ?_
      have s917 := s916.trans s17
      tm_at "rd"
      refine ⟨p, dx, _, rfl, s917 _ _ h1, hf_no (by decide +kernel) (by decide +kernel), ?_⟩
      tm_at "rd"
      refine ⟨p, _, t, rfl, hA16.same s17, fun lr hlr => ?_⟩
      have s18 : Same H17 (upd H17 lr (.lst (svs t))) := Same.new (Same.refl H17) hlr
      have hr18 : upd H17 lr (.lst (svs t)) lr = some (.lst (svs t)) := upd_same
      generalize upd H17 lr (.lst (svs t)) = H18 at s18 hr18
      have hl18 := s18 _ _ (s17 _ _ hl16)
      tm_at "rd"
      refine ⟨lr, ls, _, _, rfl, rfl, SqL.of hr18, SqL.of hl18, svs_flat _, svs_flat _, ?_⟩
      rw [eqVs_sv]
      tm_at "rd"
      refine iteN (fun z => absurd rfl z) (fun _ => ?_)
      have s918 := s917.trans s18
      have hA18 := hA.same s918
      have hg18 := s918 _ _ hg9
      tm_at "rd"
      refine ⟨p, dx, _, rfl, s918 _ _ h1, hf_no (by decide +kernel) (by decide +kernel), ?_⟩
      tm_at "rd"
      refine .inl ⟨p, _, t, la, rfl, hA18, Ft.none, la0, la1, ?_⟩
      rw [place_out Ft.st hlt]
      tm_at "rd"
      refine iteN (fun z => absurd rfl z) (fun _ => ?_)
      tm_at "rd"
      refine ⟨p, lg, _, t, ds, rfl, hA18, Ft, SqL.of hg18, hpm, fun H19 s19 => ?_⟩
      tm_at "rd"
      refine iteF ?_
      have s919 := s918.trans s19
      have hA19 := hA18.same s19
      have hg19 := s19 _ _ hg18
      have hl19 := s19 _ _ hl18
      tm_at "rd"
      refine iteD (fun _ => ?_) (fun hz => ?_)
      · tm_at "rd"
        exact kq _
      have npos : 0 < n := by omega
      tm_at "rd"
      refine ⟨a, ns, _, rfl, scr (Frm.of s919), by decide, ?_⟩
      tm_at "rd"
      have e0 := Int.emod_nonneg (cellF ns 5) (show (n : Int) ≠ 0 by omega)
      have e1 := Int.emod_lt_of_pos (cellF ns 5) (show (0 : Int) < (n : Int) by omega)
      obtain ⟨j, hj⟩ := Int.eq_ofNat_of_zero_le e0
      have hjl : j < ds.length := by omega
      rw [hj]
      refine rd_ixL (SqL.of hg19) (atI_ints hjl) ?_
      have hgo : ds[j] ∈ ds := List.getElem_mem hjl
      generalize ds[j] = go at hgo
      obtain ⟨go0, go1⟩ := hdG go hgo
      have hgot : go ∈ who t := hpm.mem_iff.mpr hgo
      with_reducible refine rd_gname ?_
      refine rd_st (σ' := [some (.ref a), some (.int (n : Int)), some (.ref p), some (.ref lg), some x5, some (.int la), v6, some (.ref ls), some (.ref ld), some (.int go), none]) rfl ?_
      tm_at "rd"
      refine .inr ⟨p, _, t, go, rfl, hA19, Ft, L1, go0, go1, .inl hgot, fun _ l7 H20 s20 hl7 => ?_, fun z => absurd hgot z⟩
      tm_at "rd"
      refine ⟨2, rfl, by decide, fun l8 H21 s21 hl8 => ?_⟩
      refine ⟨l7, l8, _, _, rfl, rfl, SqL.of (s21 _ _ hl7), SqL.of hl8, fl6_flat _, fl6_flat _, ?_⟩
      rw [fl6_eq 2 2 (by decide) (by decide)]
      tm_at "rd"
      refine iteN (fun z => absurd rfl z) (fun _ => ?_)
      have s921 := s919.trans (s20.trans s21)
      tm_at "rd"
      refine ⟨p, dx, _, rfl, s921 _ _ h1, hf_no (by decide +kernel) (by decide +kernel), ?_⟩
      tm_at "rd"
      refine ⟨p, _, t, rfl, hA.same s921, fun lr2 hlr2 => ?_⟩
      have s22 : Same H21 (upd H21 lr2 (.lst (svs t))) := Same.new (Same.refl H21) hlr2
      have hr22 : upd H21 lr2 (.lst (svs t)) lr2 = some (.lst (svs t)) := upd_same
      generalize upd H21 lr2 (.lst (svs t)) = H22 at s22 hr22
      have hl22 := s22 _ _ (s21 _ _ (s20 _ _ hl19))
      tm_at "rd"
      refine ⟨lr2, ls, _, _, rfl, rfl, SqL.of hr22, SqL.of hl22, svs_flat _, svs_flat _, ?_⟩
      rw [eqVs_sv]
      tm_at "rd"
      refine iteN (fun z => absurd rfl z) (fun _ => ?_)
      have s922 := s921.trans s22
      have hg22 := s922 _ _ hg9
      tm_at "rd"
      refine ⟨lg, rfl, ⟨_, SqL.of hg22⟩, ?_⟩
      refine comp_gen (own := 1) (fr := [9]) (n := ds.length) (p := fun i => decide (ds.getD i 0 ≠ go)) (f := fun i => .int (ds.getD i 0)) (S := fun σ => ∃ v, σ = [v, some (.int go)]) ⟨_, rfl⟩ (Nat.le_trans (show ds.length ≤ 1024 by omega) (by decide)) (fun i H' x H'' _ _ y => ?_) (fun i σ H' hi hσ sm => ?_) (fun H' sm => ?_) (fun le H23 hle0 sm hH23 => ?_)
      · obtain ⟨rfl, _⟩ := y
        exact Same.refl _
      · obtain ⟨v, rfl⟩ := hσ
        have hgd : (ds.map V.int)[i]? = some (.int (ds.getD i 0)) := by
          rw [List.getElem?_map, List.getElem?_eq_getElem hi]
          simp [List.getD, hi]
        refine ⟨⟨_, _, SqL.of (sm _ _ hg22), hgd⟩, ?_⟩
        rintro x H'' ⟨rfl, hx⟩ R R0 h1' h0'
        have hx' := hx _ (SqL.of (sm _ _ hg22))
        rw [hgd] at hx'
        cases hx'
        tm_at "rd"
        by_cases e : ds.getD i 0 = go
        · refine iteN (fun z => absurd e z) (fun _ => ?_)
          exact h0' (decide_eq_false (fun z => z e)) _ _ ⟨_, rfl⟩ (Same.refl _)
        · refine iteN (fun _ => ?_) (fun z => absurd z e)
          tm_at "rd"
          exact h1' (decide_eq_true e) _ _ ⟨_, rfl⟩ (Same.refl _)
      · exact ⟨_, SqL.of (sm _ _ hg22), by rw [List.length_map]; exact Nat.le_refl _⟩
      rw [range_filter ds (fun y => decide (y ≠ go))] at hH23
      have dpp := drop_perm10 hdn hgo
      have hleG : Gs (ds.filter fun y => decide (y ≠ go)) := fun g hg => hdG g (List.mem_filter.mp hg).1
      have hlegn : go ∉ ds.filter fun y => decide (y ≠ go) := fun z => by
        have := (List.mem_filter.mp z).2
        simp at this
      have hlela : la ∉ ds.filter fun y => decide (y ≠ go) := fun z => hla (List.mem_filter.mp z).1
      have hlel : (ds.filter fun y => decide (y ≠ go)).length + 1 = n := by
        have := dpp.length_eq
        rw [List.length_cons] at this
        omega
      generalize (ds.filter fun y => decide (y ≠ go)) = lf at hH23 dpp hleG hlegn hlela hlel
      have s923 := s922.trans sm
      have hA23 := hA.same s923
      have hl23 := sm _ _ hl22
      have lep : le ≠ p := hA23.ne hH23
      with_reducible refine rd_gname ?_
      refine rd_st (σ' := [some (.ref a), some (.int (n : Int)), some (.ref p), some (.ref lg), some x5, some (.int la), v6, some (.ref ls), some (.ref ld), some (.int go), some (.ref le)]) rfl ?_
      clear s922 s921 s919 s918 s917 s916 s22 s21 s20 s19 s18 s17 s16
      tm_at "rd"
      refine ⟨p, dx, _, rfl, s923 _ _ h1, hf_no (by decide +kernel) (by decide +kernel), ?_⟩
      tm_at "rd"
      refine .inr ⟨p, _, t, go, rfl, hA23, Ft, go0, go1, fun z => absurd hgot z, fun _ t2 H24 fr24 hA24 F2 pp2 => ?_⟩
      have w2 : (who t2).Perm lf := pp2 _ (hpm.trans dpp)
      obtain ⟨i, hi, hs, e⟩ := place_in Ft.st hgot
      rw [e]
      have hl24 := fr24 _ _ lsp hl23
      have he24 := fr24 _ _ lep hH23
      have n0 : 0 < t.length := by have := Ft.len; omega
      obtain ⟨i1, i2⟩ := ix_svs (Ft.st.nodup fun g => hm_lt n0 g) hi hs
      tm_at "rd"
      refine ⟨rd_tyL rfl (SqL.of hl24), ?_⟩
      tm_at "rd"
      refine ⟨ls, _, _, i, rfl, rfl, SqL.of hl24, svs_flat _, rfl, i1, i2, ?_⟩
      tm_at "rd"
      refine iteN (fun z => absurd rfl z) (fun _ => ?_)
      have hgo2 : go ∉ who t2 := fun z => hlegn (w2.mem_iff.mp z)
      have hla2 : la ∉ who t2 := fun z => hlela (w2.mem_iff.mp z)
      tm_at "rd"
      refine .inr ⟨p, _, t2, go, rfl, hA24, F2, go0, go1, fun _ l9 H25 s25 hl9 => ?_, fun z => absurd z hgo2⟩
      tm_at "rd"
      refine ⟨3, rfl, by decide, fun l10 H26 s26 hl10' => ?_⟩
      refine ⟨l9, l10, _, _, rfl, rfl, SqL.of (s26 _ _ hl9), SqL.of hl10', fl6_flat _, fl6_flat _, ?_⟩
      rw [fl6_eq 3 3 (by decide) (by decide)]
      tm_at "rd"
      refine iteN (fun z => absurd rfl z) (fun _ => ?_)
      have s2426 := s25.trans s26
      have hA26 := hA24.same s2426
      have he26 := s2426 _ _ he24
      obtain ⟨dy, ly, y1, y2⟩ := hA26.ob
      tm_at "rd"
      refine ⟨p, dy, _, rfl, y1, hf_no (by decide +kernel) (by decide +kernel), ?_⟩
      tm_at "rd"
      refine ⟨p, _, t2, rfl, hA26, fun lr3 hlr3 => ?_⟩
      have s27 : Same H26 (upd H26 lr3 (.lst (svs t2))) := Same.new (Same.refl H26) hlr3
      have hr27 : upd H26 lr3 (.lst (svs t2)) lr3 = some (.lst (svs t2)) := upd_same
      generalize upd H26 lr3 (.lst (svs t2)) = H27 at s27 hr27
      tm_at "rd"
      refine ⟨lr3, le, t2, lf, rfl, hr27, SqL.of (s27 _ _ he26), F2, w2, fun H28 s28 => ?_⟩
      tm_at "rd"
      refine iteF ?_
      have s2628 := s27.trans s28
      have hA28 := hA26.same s2628
      have he28 := s2628 _ _ he26
      have wl2 : (who t2).length + 1 = n := by rw [w2.length_eq]; exact hlel
      tm_at "rd"
      refine ⟨p, _, t2, la, rfl, hA28, F2, L1, la0, la1, hla2, by omega, fun t3 H29 fr29 hA29 F3 pp3 => ?_⟩
      tm_at "rd"
      refine iteF ?_
      have he29 := fr29 _ _ lep he28
      have w3 : (who t3).Perm (la :: lf) := pp3.trans (List.Perm.cons la w2)
      have wl3 : (who t3).length = n := by rw [w3.length_eq, List.length_cons]; exact hlel
      have hgo3 : go ∉ who t3 := fun z => by
        rcases List.mem_cons.mp (w3.mem_iff.mp z) with y | y
        · exact hla (y ▸ hgo)
        · exact hlegn y
      have hla3 : la ∈ who t3 := w3.mem_iff.mpr (List.mem_cons_self ..)
      tm_at "rd"
      refine .inr ⟨p, _, t3, go, rfl, hA29, F3, L1, go0, go1, .inr (by omega), fun z => absurd z hgo3, fun _ l11 H30 s30 hl11 => ?_⟩
      tm_at "rd"
      refine ⟨4, rfl, by decide, fun l12 H31 s31 hl12 => ?_⟩
      refine ⟨l11, l12, _, _, rfl, rfl, SqL.of (s31 _ _ hl11), SqL.of hl12, fl6_flat _, fl6_flat _, ?_⟩
      rw [fl6_eq 4 4 (by decide) (by decide)]
      tm_at "rd"
      refine iteN (fun z => absurd rfl z) (fun _ => ?_)
      have s2931 := s30.trans s31
      have hA31 := hA29.same s2931
      have he31 := s2931 _ _ he29
      tm_at "rd"
      refine ⟨(by show 1 ≤ sizeLine; decide), fun l13 hl13 => ?_⟩
      tm_at "rd"
      have s32 : Same H31 (upd H31 l13 (.lst [.int la])) := Same.new (Same.refl H31) hl13
      refine rd_cat (s32 _ _ he31) upd_same (by rw [List.length_map]; exact Nat.le_trans (show lf.length + 1 ≤ 1024 by omega) (by decide)) fun l14 hl14 => ?_
      generalize upd H31 l13 (.lst [.int la]) = H32 at s32 hl14
      have ecat : lf.map V.int ++ [V.int la] = (lf ++ [la]).map V.int := by rw [List.map_append]; rfl
      rw [ecat]
      have s33 : Same H32 (upd H32 l14 (.lst ((lf ++ [la]).map V.int))) := Same.new (Same.refl H32) hl14
      have h433 : upd H32 l14 (.lst ((lf ++ [la]).map V.int)) l14 = some (.lst ((lf ++ [la]).map V.int)) := upd_same
      generalize upd H32 l14 (.lst ((lf ++ [la]).map V.int)) = H33 at s33 h433
      have s3133 := s32.trans s33
      have hA33 := hA31.same s3133
      have he33 := s3133 _ _ he31
      tm_at "rd"
      refine ⟨p, l14, _, t3, lf ++ [la], rfl, hA33, F3, SqL.of h433, w3.trans (List.perm_append_comm (l₁ := [la])), fun H34 s34 => ?_⟩
      tm_at "rd"
      refine iteF ?_
      have hA34 := hA33.same s34
      have he34 := s34 _ _ he33
      tm_at "rd"
      refine .inr ⟨p, _, t3, la, rfl, hA34, F3, la0, la1, fun z => absurd hla3 z, fun _ l15 t4 H35 fr35 hA35 F4 pp4 hl15 => ?_⟩
      have w4 : (who t4).Perm lf := pp4 _ w3
      have he35 := fr35 _ _ lep he34
      tm_at "rd"
      refine ⟨(by show 0 ≤ sizeLine; decide), fun l16 hl16' => ?_⟩
      have s36 : Same H35 (upd H35 l16 (.lst [])) := Same.new (Same.refl H35) hl16'
      refine ⟨l15, l16, _, _, rfl, rfl, SqL.of (s36 _ _ hl15), SqL.of upd_same, rfl, rfl, ?_⟩
      rw [show eqVs ([] : List V) [] = true from rfl]
      generalize upd H35 l16 (.lst []) = H36 at s36
      tm_at "rd"
      refine iteT ?_
      tm_at "rd"
      exact ⟨p, le, _, t4, lf, rfl, hA35.same s36, F4, SqL.of (s36 _ _ he35), w4, fun H37 _ => kq H37⟩
end
theorem all_mk {l : PySem.W.OpenLaw} {w : World} {K : PySem.W.Frag} {h : Heap} {mg : Str → Option Value} {fa : Addr} (X : K.In h) (G : h.Ns mainGlobals mg) (hfa : mg "law" = some (.ref fa))
    {c_RingError : Addr}
    {c_NoGuest : Addr} {cd_NoGuest : ClassData}
    {c_NoSize : Addr} {cd_NoSize : ClassData}
    {c_Twice : Addr} {cd_Twice : ClassData}
    {c_Away : Addr} {cd_Away : ClassData}
    {c_Full : Addr} {cd_Full : ClassData}
    {c_House : Addr}
    {f_House___init__ : Addr} {od_House___init__ an_House___init__ : Option Addr} {sl_House___init__ : Array (Option Value)} {oc_House___init__ kV_House___init__ dc_House___init__ pm_House___init__ cd_House___init__ ct_House___init__ : Value}
    {dT : Addr} {odT : Option Addr} {slT : Array (Option Value)} {mT : Nat} {tkT : Tok}
    {f_House_come : Addr} {od_House_come an_House_come : Option Addr} {sl_House_come : Array (Option Value)} {oc_House_come kV_House_come dc_House_come pm_House_come cd_House_come ct_House_come : Value}
    {f_House_go : Addr} {od_House_go an_House_go : Option Addr} {sl_House_go : Array (Option Value)} {oc_House_go kV_House_go dc_House_go pm_House_go cd_House_go ct_House_go : Value}
    {f_House_seat_of : Addr} {od_House_seat_of an_House_seat_of : Option Addr} {sl_House_seat_of : Array (Option Value)} {oc_House_seat_of kV_House_seat_of dc_House_seat_of pm_House_seat_of cd_House_seat_of ct_House_seat_of : Value}
    {f_House_row : Addr} {od_House_row an_House_row : Option Addr} {sl_House_row : Array (Option Value)} {oc_House_row kV_House_row dc_House_row pm_House_row cd_House_row ct_House_row : Value}
    {f_House_guests : Addr} {od_House_guests an_House_guests : Option Addr} {sl_House_guests : Array (Option Value)} {oc_House_guests kV_House_guests dc_House_guests pm_House_guests cd_House_guests ct_House_guests : Value}
    {f_House_many : Addr} {od_House_many an_House_many : Option Addr} {sl_House_many : Array (Option Value)} {oc_House_many kV_House_many dc_House_many pm_House_many cd_House_many ct_House_many : Value}
    {t_FACTOR : Tok}
    {t_SPREAD : Tok}
    {a_HOUSE_RINGS : Addr} {od_HOUSE_RINGS : Option Addr} {sl_HOUSE_RINGS : Array (Option Value)} {m_HOUSE_RINGS : Nat} {t_HOUSE_RINGS_0 t_HOUSE_RINGS_1 t_HOUSE_RINGS_2 t_HOUSE_RINGS_3 t_HOUSE_RINGS_4 t_HOUSE_RINGS_5 : Tok}
    {t_GREATEST_MOST : Tok}
    {f_is_whole : Addr} {od_is_whole an_is_whole : Option Addr} {sl_is_whole : Array (Option Value)} {oc_is_whole kV_is_whole dc_is_whole pm_is_whole cd_is_whole ct_is_whole : Value}
    {f_is_guest : Addr} {od_is_guest an_is_guest : Option Addr} {sl_is_guest : Array (Option Value)} {oc_is_guest kV_is_guest dc_is_guest pm_is_guest cd_is_guest ct_is_guest : Value}
    {f_home : Addr} {od_home an_home : Option Addr} {sl_home : Array (Option Value)} {oc_home kV_home dc_home pm_home cd_home ct_home : Value}
    {f_carried : Addr} {od_carried an_carried : Option Addr} {sl_carried : Array (Option Value)} {oc_carried kV_carried dc_carried pm_carried cd_carried ct_carried : Value}
    {f_ahead : Addr} {od_ahead an_ahead : Option Addr} {sl_ahead : Array (Option Value)} {oc_ahead kV_ahead dc_ahead pm_ahead cd_ahead ct_ahead : Value}
    {f_room : Addr} {od_room an_room : Option Addr} {sl_room : Array (Option Value)} {oc_room kV_room dc_room pm_room cd_room ct_room : Value}
    {f_check_guest : Addr} {od_check_guest an_check_guest : Option Addr} {sl_check_guest : Array (Option Value)} {oc_check_guest kV_check_guest dc_check_guest pm_check_guest cd_check_guest ct_check_guest : Value}
    {f_passed : Addr} {od_passed an_passed : Option Addr} {sl_passed : Array (Option Value)} {oc_passed kV_passed dc_passed pm_passed cd_passed ct_passed : Value}
    {f_place_of : Addr} {od_place_of an_place_of : Option Addr} {sl_place_of : Array (Option Value)} {oc_place_of kV_place_of dc_place_of pm_place_of cd_place_of ct_place_of : Value}
    {f_seat_in : Addr} {od_seat_in an_seat_in : Option Addr} {sl_seat_in : Array (Option Value)} {oc_seat_in kV_seat_in dc_seat_in pm_seat_in cd_seat_in ct_seat_in : Value}
    {f_put : Addr} {od_put an_put : Option Addr} {sl_put : Array (Option Value)} {oc_put kV_put dc_put pm_put cd_put ct_put : Value}
    {f_seat_out : Addr} {od_seat_out an_seat_out : Option Addr} {sl_seat_out : Array (Option Value)} {oc_seat_out kV_seat_out dc_seat_out pm_seat_out cd_seat_out ct_seat_out : Value}
    {f_check_list : Addr} {od_check_list an_check_list : Option Addr} {sl_check_list : Array (Option Value)} {oc_check_list kV_check_list dc_check_list pm_check_list cd_check_list ct_check_list : Value}
    {f_seated : Addr} {od_seated an_seated : Option Addr} {sl_seated : Array (Option Value)} {oc_seated kV_seated dc_seated pm_seated cd_seated ct_seated : Value}
    {f_all_in : Addr} {od_all_in an_all_in : Option Addr} {sl_all_in : Array (Option Value)} {oc_all_in kV_all_in dc_all_in pm_all_in cd_all_in ct_all_in : Value}
    {f_fitted : Addr} {od_fitted an_fitted : Option Addr} {sl_fitted : Array (Option Value)} {oc_fitted kV_fitted dc_fitted pm_fitted cd_fitted ct_fitted : Value}
    {f_l_cell_at : Addr} {od_l_cell_at an_l_cell_at : Option Addr} {sl_l_cell_at : Array (Option Value)} {oc_l_cell_at kV_l_cell_at dc_l_cell_at pm_l_cell_at cd_l_cell_at ct_l_cell_at : Value}
    {f_l_whole : Addr} {od_l_whole an_l_whole : Option Addr} {sl_l_whole : Array (Option Value)} {oc_l_whole kV_l_whole dc_l_whole pm_l_whole cd_l_whole ct_l_whole : Value}
    {f_l_home : Addr} {od_l_home an_l_home : Option Addr} {sl_l_home : Array (Option Value)} {oc_l_home kV_l_home dc_l_home pm_l_home cd_l_home ct_l_home : Value}
    {f_l_settled : Addr} {od_l_settled an_l_settled : Option Addr} {sl_l_settled : Array (Option Value)} {oc_l_settled kV_l_settled dc_l_settled pm_l_settled cd_l_settled ct_l_settled : Value}
    {f_l_size : Addr} {od_l_size an_l_size : Option Addr} {sl_l_size : Array (Option Value)} {oc_l_size kV_l_size dc_l_size pm_l_size cd_l_size ct_l_size : Value}
    {f_l_odd : Addr} {od_l_odd an_l_odd : Option Addr} {sl_l_odd : Array (Option Value)} {oc_l_odd kV_l_odd dc_l_odd pm_l_odd cd_l_odd ct_l_odd : Value}
    {f_l_kinds : Addr} {od_l_kinds an_l_kinds : Option Addr} {sl_l_kinds : Array (Option Value)} {oc_l_kinds kV_l_kinds dc_l_kinds pm_l_kinds cd_l_kinds ct_l_kinds : Value}
    {f_l_only : Addr} {od_l_only an_l_only : Option Addr} {sl_l_only : Array (Option Value)} {oc_l_only kV_l_only dc_l_only pm_l_only cd_l_only ct_l_only : Value}
    {f_l_made : Addr} {od_l_made an_l_made : Option Addr} {sl_l_made : Array (Option Value)} {oc_l_made kV_l_made dc_l_made pm_l_made cd_l_made ct_l_made : Value}
    {f_l_comes : Addr} {od_l_comes an_l_comes : Option Addr} {sl_l_comes : Array (Option Value)} {oc_l_comes kV_l_comes dc_l_comes pm_l_comes cd_l_comes ct_l_comes : Value}
    {f_l_goes : Addr} {od_l_goes an_l_goes : Option Addr} {sl_l_goes : Array (Option Value)} {oc_l_goes kV_l_goes dc_l_goes pm_l_goes cd_l_goes ct_l_goes : Value}
    {f_l_looked_for : Addr} {od_l_looked_for an_l_looked_for : Option Addr} {sl_l_looked_for : Array (Option Value)} {oc_l_looked_for kV_l_looked_for dc_l_looked_for pm_l_looked_for cd_l_looked_for ct_l_looked_for : Value}
    {f_l_sits : Addr} {od_l_sits an_l_sits : Option Addr} {sl_l_sits : Array (Option Value)} {oc_l_sits kV_l_sits dc_l_sits pm_l_sits cd_l_sits ct_l_sits : Value}
    {f_l_there : Addr} {od_l_there an_l_there : Option Addr} {sl_l_there : Array (Option Value)} {oc_l_there kV_l_there dc_l_there pm_l_there cd_l_there ct_l_there : Value}
    {f_l_no_guest : Addr} {od_l_no_guest an_l_no_guest : Option Addr} {sl_l_no_guest : Array (Option Value)} {oc_l_no_guest kV_l_no_guest dc_l_no_guest pm_l_no_guest cd_l_no_guest ct_l_no_guest : Value}
    {f_l_most : Addr} {od_l_most an_l_most : Option Addr} {sl_l_most : Array (Option Value)} {oc_l_most kV_l_most dc_l_most pm_l_most cd_l_most ct_l_most : Value}
    {f_l_all : Addr} {od_l_all an_l_all : Option Addr} {sl_l_all : Array (Option Value)} {oc_l_all kV_l_all dc_l_all pm_l_all cd_l_all ct_l_all : Value}
    {f_l_house : Addr} {od_l_house an_l_house : Option Addr} {sl_l_house : Array (Option Value)} {oc_l_house kV_l_house dc_l_house pm_l_house cd_l_house ct_l_house : Value}
    {f_law : Addr} {od_law an_law : Option Addr} {sl_law : Array (Option Value)} {oc_law kV_law dc_law pm_law cd_law ct_law : Value}
    (cm_RingError : PySem.W.nsIn K mainGlobals "RingError" = some (some (.ref c_RingError)))
    (cm_NoGuest : PySem.W.nsIn K mainGlobals "NoGuest" = some (some (.ref c_NoGuest)))
    (cm_NoSize : PySem.W.nsIn K mainGlobals "NoSize" = some (some (.ref c_NoSize)))
    (cm_Twice : PySem.W.nsIn K mainGlobals "Twice" = some (some (.ref c_Twice)))
    (cm_Away : PySem.W.nsIn K mainGlobals "Away" = some (some (.ref c_Away)))
    (cm_Full : PySem.W.nsIn K mainGlobals "Full" = some (some (.ref c_Full)))
    (ce_NoGuest : PySem.W.excIn K c_NoGuest veTail "ValueError.__new__" = true)
    (cf1_NoGuest : PySem.W.findIn K (.ref c_NoGuest) "__class__" = some (some (.builtin "object.__class__")))
    (cf2_NoGuest : PySem.W.findIn K (.ref c_NoGuest) "__getattribute__" = some (some (.builtin "BaseException.__getattribute__")))
    (cf3_NoGuest : PySem.W.findIn K (.ref c_NoGuest) "__getattr__" = some none)
    (cf4_NoGuest : PySem.W.mroIn K c_NoGuest (.type "object") = some true)
    (cf5_NoGuest : PySem.W.subIn K (.ref c_NoGuest) (.type "BaseException") = some true)
    (cc_NoGuest : PySem.W.clsIn K c_NoGuest = some cd_NoGuest)
    (cx_NoGuest : PySem.W.exmOne K (.ref c_NoGuest) (.ref c_RingError) = some true)
    (cv_NoGuest : PySem.W.kitOne K (.ref c_NoGuest) (.type "ValueError") = some true)
    (ci_NoGuest_RingError : PySem.W.kitOne K (.ref c_NoGuest) (.ref c_RingError) = some true)
    (ci_NoGuest_NoGuest : PySem.W.kitOne K (.ref c_NoGuest) (.ref c_NoGuest) = some true)
    (ci_NoGuest_NoSize : PySem.W.kitOne K (.ref c_NoGuest) (.ref c_NoSize) = some false)
    (ci_NoGuest_Twice : PySem.W.kitOne K (.ref c_NoGuest) (.ref c_Twice) = some false)
    (ci_NoGuest_Away : PySem.W.kitOne K (.ref c_NoGuest) (.ref c_Away) = some false)
    (ci_NoGuest_Full : PySem.W.kitOne K (.ref c_NoGuest) (.ref c_Full) = some false)
    (ce_NoSize : PySem.W.excIn K c_NoSize veTail "ValueError.__new__" = true)
    (cf1_NoSize : PySem.W.findIn K (.ref c_NoSize) "__class__" = some (some (.builtin "object.__class__")))
    (cf2_NoSize : PySem.W.findIn K (.ref c_NoSize) "__getattribute__" = some (some (.builtin "BaseException.__getattribute__")))
    (cf3_NoSize : PySem.W.findIn K (.ref c_NoSize) "__getattr__" = some none)
    (cf4_NoSize : PySem.W.mroIn K c_NoSize (.type "object") = some true)
    (cf5_NoSize : PySem.W.subIn K (.ref c_NoSize) (.type "BaseException") = some true)
    (cc_NoSize : PySem.W.clsIn K c_NoSize = some cd_NoSize)
    (cx_NoSize : PySem.W.exmOne K (.ref c_NoSize) (.ref c_RingError) = some true)
    (cv_NoSize : PySem.W.kitOne K (.ref c_NoSize) (.type "ValueError") = some true)
    (ci_NoSize_RingError : PySem.W.kitOne K (.ref c_NoSize) (.ref c_RingError) = some true)
    (ci_NoSize_NoGuest : PySem.W.kitOne K (.ref c_NoSize) (.ref c_NoGuest) = some false)
    (ci_NoSize_NoSize : PySem.W.kitOne K (.ref c_NoSize) (.ref c_NoSize) = some true)
    (ci_NoSize_Twice : PySem.W.kitOne K (.ref c_NoSize) (.ref c_Twice) = some false)
    (ci_NoSize_Away : PySem.W.kitOne K (.ref c_NoSize) (.ref c_Away) = some false)
    (ci_NoSize_Full : PySem.W.kitOne K (.ref c_NoSize) (.ref c_Full) = some false)
    (ce_Twice : PySem.W.excIn K c_Twice veTail "ValueError.__new__" = true)
    (cf1_Twice : PySem.W.findIn K (.ref c_Twice) "__class__" = some (some (.builtin "object.__class__")))
    (cf2_Twice : PySem.W.findIn K (.ref c_Twice) "__getattribute__" = some (some (.builtin "BaseException.__getattribute__")))
    (cf3_Twice : PySem.W.findIn K (.ref c_Twice) "__getattr__" = some none)
    (cf4_Twice : PySem.W.mroIn K c_Twice (.type "object") = some true)
    (cf5_Twice : PySem.W.subIn K (.ref c_Twice) (.type "BaseException") = some true)
    (cc_Twice : PySem.W.clsIn K c_Twice = some cd_Twice)
    (cx_Twice : PySem.W.exmOne K (.ref c_Twice) (.ref c_RingError) = some true)
    (cv_Twice : PySem.W.kitOne K (.ref c_Twice) (.type "ValueError") = some true)
    (ci_Twice_RingError : PySem.W.kitOne K (.ref c_Twice) (.ref c_RingError) = some true)
    (ci_Twice_NoGuest : PySem.W.kitOne K (.ref c_Twice) (.ref c_NoGuest) = some false)
    (ci_Twice_NoSize : PySem.W.kitOne K (.ref c_Twice) (.ref c_NoSize) = some false)
    (ci_Twice_Twice : PySem.W.kitOne K (.ref c_Twice) (.ref c_Twice) = some true)
    (ci_Twice_Away : PySem.W.kitOne K (.ref c_Twice) (.ref c_Away) = some false)
    (ci_Twice_Full : PySem.W.kitOne K (.ref c_Twice) (.ref c_Full) = some false)
    (ce_Away : PySem.W.excIn K c_Away veTail "ValueError.__new__" = true)
    (cf1_Away : PySem.W.findIn K (.ref c_Away) "__class__" = some (some (.builtin "object.__class__")))
    (cf2_Away : PySem.W.findIn K (.ref c_Away) "__getattribute__" = some (some (.builtin "BaseException.__getattribute__")))
    (cf3_Away : PySem.W.findIn K (.ref c_Away) "__getattr__" = some none)
    (cf4_Away : PySem.W.mroIn K c_Away (.type "object") = some true)
    (cf5_Away : PySem.W.subIn K (.ref c_Away) (.type "BaseException") = some true)
    (cc_Away : PySem.W.clsIn K c_Away = some cd_Away)
    (cx_Away : PySem.W.exmOne K (.ref c_Away) (.ref c_RingError) = some true)
    (cv_Away : PySem.W.kitOne K (.ref c_Away) (.type "ValueError") = some true)
    (ci_Away_RingError : PySem.W.kitOne K (.ref c_Away) (.ref c_RingError) = some true)
    (ci_Away_NoGuest : PySem.W.kitOne K (.ref c_Away) (.ref c_NoGuest) = some false)
    (ci_Away_NoSize : PySem.W.kitOne K (.ref c_Away) (.ref c_NoSize) = some false)
    (ci_Away_Twice : PySem.W.kitOne K (.ref c_Away) (.ref c_Twice) = some false)
    (ci_Away_Away : PySem.W.kitOne K (.ref c_Away) (.ref c_Away) = some true)
    (ci_Away_Full : PySem.W.kitOne K (.ref c_Away) (.ref c_Full) = some false)
    (ce_Full : PySem.W.excIn K c_Full veTail "ValueError.__new__" = true)
    (cf1_Full : PySem.W.findIn K (.ref c_Full) "__class__" = some (some (.builtin "object.__class__")))
    (cf2_Full : PySem.W.findIn K (.ref c_Full) "__getattribute__" = some (some (.builtin "BaseException.__getattribute__")))
    (cf3_Full : PySem.W.findIn K (.ref c_Full) "__getattr__" = some none)
    (cf4_Full : PySem.W.mroIn K c_Full (.type "object") = some true)
    (cf5_Full : PySem.W.subIn K (.ref c_Full) (.type "BaseException") = some true)
    (cc_Full : PySem.W.clsIn K c_Full = some cd_Full)
    (cx_Full : PySem.W.exmOne K (.ref c_Full) (.ref c_RingError) = some true)
    (cv_Full : PySem.W.kitOne K (.ref c_Full) (.type "ValueError") = some true)
    (ci_Full_RingError : PySem.W.kitOne K (.ref c_Full) (.ref c_RingError) = some true)
    (ci_Full_NoGuest : PySem.W.kitOne K (.ref c_Full) (.ref c_NoGuest) = some false)
    (ci_Full_NoSize : PySem.W.kitOne K (.ref c_Full) (.ref c_NoSize) = some false)
    (ci_Full_Twice : PySem.W.kitOne K (.ref c_Full) (.ref c_Twice) = some false)
    (ci_Full_Away : PySem.W.kitOne K (.ref c_Full) (.ref c_Away) = some false)
    (ci_Full_Full : PySem.W.kitOne K (.ref c_Full) (.ref c_Full) = some true)
    (cm_House : PySem.W.nsIn K mainGlobals "House" = some (some (.ref c_House)))
    (hpg_House : PySem.W.plainGet K c_House Str.empty = true)
    (hhd_House : PySem.W.hasDictIn K c_House = true)
    (hpo_House : PySem.W.plainOver K c_House = true)
    (hsa_House : PySem.W.findIn K (.ref c_House) "__setattr__" = some (some (.builtin "object.__setattr__")))
    (hmk_House : PySem.W.makesIn K c_House = true)
    (hkc_House : PySem.W.keepIn K (.ref c_House) = true)
    (hn_most : PySem.W.findIn K (.ref c_House) "most" = some none)
    (hn_seats : PySem.W.findIn K (.ref c_House) "seats" = some none)
    (a_House___init__ : PySem.W.findIn K (.ref c_House) "__init__" = some (some (.ref f_House___init__)))
    (i_House___init__ : PySem.W.isFn K (.ref f_House___init__) = true)
    (l_House___init__ : K.lookup f_House___init__ = some ⟨oc_House___init__, od_House___init__, .func (PySem.W.fnOf "__init__" "House.__init__" (defArgs s_House___init__) (defBody s_House___init__) (defScope s_House___init__) (.ref dT) kV_House___init__ dc_House___init__ pm_House___init__ an_House___init__ cd_House___init__ ct_House___init__), sl_House___init__⟩)
    (c_House___init__ : PySem.W.codeIn K cd_House___init__ "House.__init__" = true)
    (k_House___init__ : PySem.W.keepIn K (.ref f_House___init__) = true)
    (ldT : K.lookup dT = some ⟨.type "tuple", odT, .seq #[.int 96 tkT] mT, slT⟩)
    (a_House_come : PySem.W.findIn K (.ref c_House) "come" = some (some (.ref f_House_come)))
    (i_House_come : PySem.W.isFn K (.ref f_House_come) = true)
    (l_House_come : K.lookup f_House_come = some ⟨oc_House_come, od_House_come, .func (PySem.W.fnOf "come" "House.come" (defArgs s_House_come) (defBody s_House_come) (defScope s_House_come) .none kV_House_come dc_House_come pm_House_come an_House_come cd_House_come ct_House_come), sl_House_come⟩)
    (c_House_come : PySem.W.codeIn K cd_House_come "House.come" = true)
    (k_House_come : PySem.W.keepIn K (.ref f_House_come) = true)
    (a_House_go : PySem.W.findIn K (.ref c_House) "go" = some (some (.ref f_House_go)))
    (i_House_go : PySem.W.isFn K (.ref f_House_go) = true)
    (l_House_go : K.lookup f_House_go = some ⟨oc_House_go, od_House_go, .func (PySem.W.fnOf "go" "House.go" (defArgs s_House_go) (defBody s_House_go) (defScope s_House_go) .none kV_House_go dc_House_go pm_House_go an_House_go cd_House_go ct_House_go), sl_House_go⟩)
    (c_House_go : PySem.W.codeIn K cd_House_go "House.go" = true)
    (k_House_go : PySem.W.keepIn K (.ref f_House_go) = true)
    (a_House_seat_of : PySem.W.findIn K (.ref c_House) "seat_of" = some (some (.ref f_House_seat_of)))
    (i_House_seat_of : PySem.W.isFn K (.ref f_House_seat_of) = true)
    (l_House_seat_of : K.lookup f_House_seat_of = some ⟨oc_House_seat_of, od_House_seat_of, .func (PySem.W.fnOf "seat_of" "House.seat_of" (defArgs s_House_seat_of) (defBody s_House_seat_of) (defScope s_House_seat_of) .none kV_House_seat_of dc_House_seat_of pm_House_seat_of an_House_seat_of cd_House_seat_of ct_House_seat_of), sl_House_seat_of⟩)
    (c_House_seat_of : PySem.W.codeIn K cd_House_seat_of "House.seat_of" = true)
    (k_House_seat_of : PySem.W.keepIn K (.ref f_House_seat_of) = true)
    (a_House_row : PySem.W.findIn K (.ref c_House) "row" = some (some (.ref f_House_row)))
    (i_House_row : PySem.W.isFn K (.ref f_House_row) = true)
    (l_House_row : K.lookup f_House_row = some ⟨oc_House_row, od_House_row, .func (PySem.W.fnOf "row" "House.row" (defArgs s_House_row) (defBody s_House_row) (defScope s_House_row) .none kV_House_row dc_House_row pm_House_row an_House_row cd_House_row ct_House_row), sl_House_row⟩)
    (c_House_row : PySem.W.codeIn K cd_House_row "House.row" = true)
    (k_House_row : PySem.W.keepIn K (.ref f_House_row) = true)
    (a_House_guests : PySem.W.findIn K (.ref c_House) "guests" = some (some (.ref f_House_guests)))
    (i_House_guests : PySem.W.isFn K (.ref f_House_guests) = true)
    (l_House_guests : K.lookup f_House_guests = some ⟨oc_House_guests, od_House_guests, .func (PySem.W.fnOf "guests" "House.guests" (defArgs s_House_guests) (defBody s_House_guests) (defScope s_House_guests) .none kV_House_guests dc_House_guests pm_House_guests an_House_guests cd_House_guests ct_House_guests), sl_House_guests⟩)
    (c_House_guests : PySem.W.codeIn K cd_House_guests "House.guests" = true)
    (k_House_guests : PySem.W.keepIn K (.ref f_House_guests) = true)
    (a_House_many : PySem.W.findIn K (.ref c_House) "many" = some (some (.ref f_House_many)))
    (i_House_many : PySem.W.isFn K (.ref f_House_many) = true)
    (l_House_many : K.lookup f_House_many = some ⟨oc_House_many, od_House_many, .func (PySem.W.fnOf "many" "House.many" (defArgs s_House_many) (defBody s_House_many) (defScope s_House_many) .none kV_House_many dc_House_many pm_House_many an_House_many cd_House_many ct_House_many), sl_House_many⟩)
    (c_House_many : PySem.W.codeIn K cd_House_many "House.many" = true)
    (k_House_many : PySem.W.keepIn K (.ref f_House_many) = true)
    (n_ValueError : PySem.W.nsIn K mainGlobals "ValueError" = some none)
    (n_len : PySem.W.nsIn K mainGlobals "len" = some none)
    (n_list : PySem.W.nsIn K mainGlobals "list" = some none)
    (n_range : PySem.W.nsIn K mainGlobals "range" = some none)
    (n_isinstance : PySem.W.nsIn K mainGlobals "isinstance" = some none)
    (n_int : PySem.W.nsIn K mainGlobals "int" = some none)
    (n_sorted : PySem.W.nsIn K mainGlobals "sorted" = some none)
    (n_bool : PySem.W.nsIn K mainGlobals "bool" = some none)
    (n_set : PySem.W.nsIn K mainGlobals "set" = some none)
    (k_int_int : PySem.W.kitOne K (.type "int") (.type "int") = some true)
    (k_int_bool : PySem.W.kitOne K (.type "int") (.type "bool") = some false)
    (k_bool_int : PySem.W.kitOne K (.type "bool") (.type "int") = some true)
    (k_bool_bool : PySem.W.kitOne K (.type "bool") (.type "bool") = some true)
    (k_NoneType_bool : PySem.W.kitOne K (.type "NoneType") (.type "bool") = some false)
    (k_NoneType_int : PySem.W.kitOne K (.type "NoneType") (.type "int") = some false)
    (k_str_bool : PySem.W.kitOne K (.type "str") (.type "bool") = some false)
    (k_str_int : PySem.W.kitOne K (.type "str") (.type "int") = some false)
    (k_tuple_bool : PySem.W.kitOne K (.type "tuple") (.type "bool") = some false)
    (k_tuple_int : PySem.W.kitOne K (.type "tuple") (.type "int") = some false)
    (k_list_bool : PySem.W.kitOne K (.type "list") (.type "bool") = some false)
    (k_list_int : PySem.W.kitOne K (.type "list") (.type "int") = some false)
    (k_dict_bool : PySem.W.kitOne K (.type "dict") (.type "bool") = some false)
    (k_dict_int : PySem.W.kitOne K (.type "dict") (.type "int") = some false)
    (k_list_list : PySem.W.kitOne K (.type "list") (.type "list") = some true)
    (g_FACTOR : PySem.W.nsIn K mainGlobals "FACTOR" = some (some (.int 40503 t_FACTOR)))
    (g_SPREAD : PySem.W.nsIn K mainGlobals "SPREAD" = some (some (.int 65536 t_SPREAD)))
    (g_HOUSE_RINGS : PySem.W.nsIn K mainGlobals "HOUSE_RINGS" = some (some (.ref a_HOUSE_RINGS)))
    (h_HOUSE_RINGS : K.lookup a_HOUSE_RINGS = some ⟨.type "tuple", od_HOUSE_RINGS, .seq #[.int 8 t_HOUSE_RINGS_0, .int 16 t_HOUSE_RINGS_1, .int 32 t_HOUSE_RINGS_2, .int 64 t_HOUSE_RINGS_3, .int 128 t_HOUSE_RINGS_4, .int 256 t_HOUSE_RINGS_5] m_HOUSE_RINGS, sl_HOUSE_RINGS⟩)
    (g_GREATEST_MOST : PySem.W.nsIn K mainGlobals "GREATEST_MOST" = some (some (.int 192 t_GREATEST_MOST)))
    (a_is_whole : PySem.W.nsIn K mainGlobals "is_whole" = some (some (.ref f_is_whole)))
    (l_is_whole : K.lookup f_is_whole = some ⟨oc_is_whole, od_is_whole, .func (PySem.W.fnOf "is_whole" "is_whole" (defArgs s_is_whole) (defBody s_is_whole) (defScope s_is_whole) .none kV_is_whole dc_is_whole pm_is_whole an_is_whole cd_is_whole ct_is_whole), sl_is_whole⟩)
    (c_is_whole : PySem.W.codeIn K cd_is_whole "is_whole" = true)
    (k_is_whole : PySem.W.keepIn K (.ref f_is_whole) = true)
    (a_is_guest : PySem.W.nsIn K mainGlobals "is_guest" = some (some (.ref f_is_guest)))
    (l_is_guest : K.lookup f_is_guest = some ⟨oc_is_guest, od_is_guest, .func (PySem.W.fnOf "is_guest" "is_guest" (defArgs s_is_guest) (defBody s_is_guest) (defScope s_is_guest) .none kV_is_guest dc_is_guest pm_is_guest an_is_guest cd_is_guest ct_is_guest), sl_is_guest⟩)
    (c_is_guest : PySem.W.codeIn K cd_is_guest "is_guest" = true)
    (k_is_guest : PySem.W.keepIn K (.ref f_is_guest) = true)
    (a_home : PySem.W.nsIn K mainGlobals "home" = some (some (.ref f_home)))
    (l_home : K.lookup f_home = some ⟨oc_home, od_home, .func (PySem.W.fnOf "home" "home" (defArgs s_home) (defBody s_home) (defScope s_home) .none kV_home dc_home pm_home an_home cd_home ct_home), sl_home⟩)
    (c_home : PySem.W.codeIn K cd_home "home" = true)
    (k_home : PySem.W.keepIn K (.ref f_home) = true)
    (a_carried : PySem.W.nsIn K mainGlobals "carried" = some (some (.ref f_carried)))
    (l_carried : K.lookup f_carried = some ⟨oc_carried, od_carried, .func (PySem.W.fnOf "carried" "carried" (defArgs s_carried) (defBody s_carried) (defScope s_carried) .none kV_carried dc_carried pm_carried an_carried cd_carried ct_carried), sl_carried⟩)
    (c_carried : PySem.W.codeIn K cd_carried "carried" = true)
    (k_carried : PySem.W.keepIn K (.ref f_carried) = true)
    (a_ahead : PySem.W.nsIn K mainGlobals "ahead" = some (some (.ref f_ahead)))
    (l_ahead : K.lookup f_ahead = some ⟨oc_ahead, od_ahead, .func (PySem.W.fnOf "ahead" "ahead" (defArgs s_ahead) (defBody s_ahead) (defScope s_ahead) .none kV_ahead dc_ahead pm_ahead an_ahead cd_ahead ct_ahead), sl_ahead⟩)
    (c_ahead : PySem.W.codeIn K cd_ahead "ahead" = true)
    (k_ahead : PySem.W.keepIn K (.ref f_ahead) = true)
    (a_room : PySem.W.nsIn K mainGlobals "room" = some (some (.ref f_room)))
    (l_room : K.lookup f_room = some ⟨oc_room, od_room, .func (PySem.W.fnOf "room" "room" (defArgs s_room) (defBody s_room) (defScope s_room) .none kV_room dc_room pm_room an_room cd_room ct_room), sl_room⟩)
    (c_room : PySem.W.codeIn K cd_room "room" = true)
    (k_room : PySem.W.keepIn K (.ref f_room) = true)
    (a_check_guest : PySem.W.nsIn K mainGlobals "check_guest" = some (some (.ref f_check_guest)))
    (l_check_guest : K.lookup f_check_guest = some ⟨oc_check_guest, od_check_guest, .func (PySem.W.fnOf "check_guest" "check_guest" (defArgs s_check_guest) (defBody s_check_guest) (defScope s_check_guest) .none kV_check_guest dc_check_guest pm_check_guest an_check_guest cd_check_guest ct_check_guest), sl_check_guest⟩)
    (c_check_guest : PySem.W.codeIn K cd_check_guest "check_guest" = true)
    (k_check_guest : PySem.W.keepIn K (.ref f_check_guest) = true)
    (a_passed : PySem.W.nsIn K mainGlobals "passed" = some (some (.ref f_passed)))
    (l_passed : K.lookup f_passed = some ⟨oc_passed, od_passed, .func (PySem.W.fnOf "passed" "passed" (defArgs s_passed) (defBody s_passed) (defScope s_passed) .none kV_passed dc_passed pm_passed an_passed cd_passed ct_passed), sl_passed⟩)
    (c_passed : PySem.W.codeIn K cd_passed "passed" = true)
    (k_passed : PySem.W.keepIn K (.ref f_passed) = true)
    (a_place_of : PySem.W.nsIn K mainGlobals "place_of" = some (some (.ref f_place_of)))
    (l_place_of : K.lookup f_place_of = some ⟨oc_place_of, od_place_of, .func (PySem.W.fnOf "place_of" "place_of" (defArgs s_place_of) (defBody s_place_of) (defScope s_place_of) .none kV_place_of dc_place_of pm_place_of an_place_of cd_place_of ct_place_of), sl_place_of⟩)
    (c_place_of : PySem.W.codeIn K cd_place_of "place_of" = true)
    (k_place_of : PySem.W.keepIn K (.ref f_place_of) = true)
    (a_seat_in : PySem.W.nsIn K mainGlobals "seat_in" = some (some (.ref f_seat_in)))
    (l_seat_in : K.lookup f_seat_in = some ⟨oc_seat_in, od_seat_in, .func (PySem.W.fnOf "seat_in" "seat_in" (defArgs s_seat_in) (defBody s_seat_in) (defScope s_seat_in) .none kV_seat_in dc_seat_in pm_seat_in an_seat_in cd_seat_in ct_seat_in), sl_seat_in⟩)
    (c_seat_in : PySem.W.codeIn K cd_seat_in "seat_in" = true)
    (k_seat_in : PySem.W.keepIn K (.ref f_seat_in) = true)
    (a_put : PySem.W.nsIn K mainGlobals "put" = some (some (.ref f_put)))
    (l_put : K.lookup f_put = some ⟨oc_put, od_put, .func (PySem.W.fnOf "put" "put" (defArgs s_put) (defBody s_put) (defScope s_put) .none kV_put dc_put pm_put an_put cd_put ct_put), sl_put⟩)
    (c_put : PySem.W.codeIn K cd_put "put" = true)
    (k_put : PySem.W.keepIn K (.ref f_put) = true)
    (a_seat_out : PySem.W.nsIn K mainGlobals "seat_out" = some (some (.ref f_seat_out)))
    (l_seat_out : K.lookup f_seat_out = some ⟨oc_seat_out, od_seat_out, .func (PySem.W.fnOf "seat_out" "seat_out" (defArgs s_seat_out) (defBody s_seat_out) (defScope s_seat_out) .none kV_seat_out dc_seat_out pm_seat_out an_seat_out cd_seat_out ct_seat_out), sl_seat_out⟩)
    (c_seat_out : PySem.W.codeIn K cd_seat_out "seat_out" = true)
    (k_seat_out : PySem.W.keepIn K (.ref f_seat_out) = true)
    (a_check_list : PySem.W.nsIn K mainGlobals "check_list" = some (some (.ref f_check_list)))
    (l_check_list : K.lookup f_check_list = some ⟨oc_check_list, od_check_list, .func (PySem.W.fnOf "check_list" "check_list" (defArgs s_check_list) (defBody s_check_list) (defScope s_check_list) .none kV_check_list dc_check_list pm_check_list an_check_list cd_check_list ct_check_list), sl_check_list⟩)
    (c_check_list : PySem.W.codeIn K cd_check_list "check_list" = true)
    (k_check_list : PySem.W.keepIn K (.ref f_check_list) = true)
    (a_seated : PySem.W.nsIn K mainGlobals "seated" = some (some (.ref f_seated)))
    (l_seated : K.lookup f_seated = some ⟨oc_seated, od_seated, .func (PySem.W.fnOf "seated" "seated" (defArgs s_seated) (defBody s_seated) (defScope s_seated) .none kV_seated dc_seated pm_seated an_seated cd_seated ct_seated), sl_seated⟩)
    (c_seated : PySem.W.codeIn K cd_seated "seated" = true)
    (k_seated : PySem.W.keepIn K (.ref f_seated) = true)
    (a_all_in : PySem.W.nsIn K mainGlobals "all_in" = some (some (.ref f_all_in)))
    (l_all_in : K.lookup f_all_in = some ⟨oc_all_in, od_all_in, .func (PySem.W.fnOf "all_in" "all_in" (defArgs s_all_in) (defBody s_all_in) (defScope s_all_in) .none kV_all_in dc_all_in pm_all_in an_all_in cd_all_in ct_all_in), sl_all_in⟩)
    (c_all_in : PySem.W.codeIn K cd_all_in "all_in" = true)
    (k_all_in : PySem.W.keepIn K (.ref f_all_in) = true)
    (a_fitted : PySem.W.nsIn K mainGlobals "fitted" = some (some (.ref f_fitted)))
    (l_fitted : K.lookup f_fitted = some ⟨oc_fitted, od_fitted, .func (PySem.W.fnOf "fitted" "fitted" (defArgs s_fitted) (defBody s_fitted) (defScope s_fitted) .none kV_fitted dc_fitted pm_fitted an_fitted cd_fitted ct_fitted), sl_fitted⟩)
    (c_fitted : PySem.W.codeIn K cd_fitted "fitted" = true)
    (k_fitted : PySem.W.keepIn K (.ref f_fitted) = true)
    (a_l_cell_at : PySem.W.nsIn K mainGlobals "_law_cell_at" = some (some (.ref f_l_cell_at)))
    (l_l_cell_at : K.lookup f_l_cell_at = some ⟨oc_l_cell_at, od_l_cell_at, .func (PySem.W.fnOf "_law_cell_at" "_law_cell_at" (defArgs s_l_cell_at) (defBody s_l_cell_at) (defScope s_l_cell_at) .none kV_l_cell_at dc_l_cell_at pm_l_cell_at an_l_cell_at cd_l_cell_at ct_l_cell_at), sl_l_cell_at⟩)
    (c_l_cell_at : PySem.W.codeIn K cd_l_cell_at "_law_cell_at" = true)
    (k_l_cell_at : PySem.W.keepIn K (.ref f_l_cell_at) = true)
    (a_l_whole : PySem.W.nsIn K mainGlobals "_law_whole" = some (some (.ref f_l_whole)))
    (l_l_whole : K.lookup f_l_whole = some ⟨oc_l_whole, od_l_whole, .func (PySem.W.fnOf "_law_whole" "_law_whole" (defArgs s_l_whole) (defBody s_l_whole) (defScope s_l_whole) .none kV_l_whole dc_l_whole pm_l_whole an_l_whole cd_l_whole ct_l_whole), sl_l_whole⟩)
    (c_l_whole : PySem.W.codeIn K cd_l_whole "_law_whole" = true)
    (k_l_whole : PySem.W.keepIn K (.ref f_l_whole) = true)
    (a_l_home : PySem.W.nsIn K mainGlobals "_law_home" = some (some (.ref f_l_home)))
    (l_l_home : K.lookup f_l_home = some ⟨oc_l_home, od_l_home, .func (PySem.W.fnOf "_law_home" "_law_home" (defArgs s_l_home) (defBody s_l_home) (defScope s_l_home) .none kV_l_home dc_l_home pm_l_home an_l_home cd_l_home ct_l_home), sl_l_home⟩)
    (c_l_home : PySem.W.codeIn K cd_l_home "_law_home" = true)
    (k_l_home : PySem.W.keepIn K (.ref f_l_home) = true)
    (a_l_settled : PySem.W.nsIn K mainGlobals "_law_settled" = some (some (.ref f_l_settled)))
    (l_l_settled : K.lookup f_l_settled = some ⟨oc_l_settled, od_l_settled, .func (PySem.W.fnOf "_law_settled" "_law_settled" (defArgs s_l_settled) (defBody s_l_settled) (defScope s_l_settled) .none kV_l_settled dc_l_settled pm_l_settled an_l_settled cd_l_settled ct_l_settled), sl_l_settled⟩)
    (c_l_settled : PySem.W.codeIn K cd_l_settled "_law_settled" = true)
    (k_l_settled : PySem.W.keepIn K (.ref f_l_settled) = true)
    (a_l_size : PySem.W.nsIn K mainGlobals "_law_size" = some (some (.ref f_l_size)))
    (l_l_size : K.lookup f_l_size = some ⟨oc_l_size, od_l_size, .func (PySem.W.fnOf "_law_size" "_law_size" (defArgs s_l_size) (defBody s_l_size) (defScope s_l_size) .none kV_l_size dc_l_size pm_l_size an_l_size cd_l_size ct_l_size), sl_l_size⟩)
    (c_l_size : PySem.W.codeIn K cd_l_size "_law_size" = true)
    (k_l_size : PySem.W.keepIn K (.ref f_l_size) = true)
    (a_l_odd : PySem.W.nsIn K mainGlobals "_law_odd" = some (some (.ref f_l_odd)))
    (l_l_odd : K.lookup f_l_odd = some ⟨oc_l_odd, od_l_odd, .func (PySem.W.fnOf "_law_odd" "_law_odd" (defArgs s_l_odd) (defBody s_l_odd) (defScope s_l_odd) .none kV_l_odd dc_l_odd pm_l_odd an_l_odd cd_l_odd ct_l_odd), sl_l_odd⟩)
    (c_l_odd : PySem.W.codeIn K cd_l_odd "_law_odd" = true)
    (k_l_odd : PySem.W.keepIn K (.ref f_l_odd) = true)
    (a_l_kinds : PySem.W.nsIn K mainGlobals "_law_kinds" = some (some (.ref f_l_kinds)))
    (l_l_kinds : K.lookup f_l_kinds = some ⟨oc_l_kinds, od_l_kinds, .func (PySem.W.fnOf "_law_kinds" "_law_kinds" (defArgs s_l_kinds) (defBody s_l_kinds) (defScope s_l_kinds) .none kV_l_kinds dc_l_kinds pm_l_kinds an_l_kinds cd_l_kinds ct_l_kinds), sl_l_kinds⟩)
    (c_l_kinds : PySem.W.codeIn K cd_l_kinds "_law_kinds" = true)
    (k_l_kinds : PySem.W.keepIn K (.ref f_l_kinds) = true)
    (a_l_only : PySem.W.nsIn K mainGlobals "_law_only" = some (some (.ref f_l_only)))
    (l_l_only : K.lookup f_l_only = some ⟨oc_l_only, od_l_only, .func (PySem.W.fnOf "_law_only" "_law_only" (defArgs s_l_only) (defBody s_l_only) (defScope s_l_only) .none kV_l_only dc_l_only pm_l_only an_l_only cd_l_only ct_l_only), sl_l_only⟩)
    (c_l_only : PySem.W.codeIn K cd_l_only "_law_only" = true)
    (k_l_only : PySem.W.keepIn K (.ref f_l_only) = true)
    (a_l_made : PySem.W.nsIn K mainGlobals "_law_made" = some (some (.ref f_l_made)))
    (l_l_made : K.lookup f_l_made = some ⟨oc_l_made, od_l_made, .func (PySem.W.fnOf "_law_made" "_law_made" (defArgs s_l_made) (defBody s_l_made) (defScope s_l_made) .none kV_l_made dc_l_made pm_l_made an_l_made cd_l_made ct_l_made), sl_l_made⟩)
    (c_l_made : PySem.W.codeIn K cd_l_made "_law_made" = true)
    (k_l_made : PySem.W.keepIn K (.ref f_l_made) = true)
    (a_l_comes : PySem.W.nsIn K mainGlobals "_law_comes" = some (some (.ref f_l_comes)))
    (l_l_comes : K.lookup f_l_comes = some ⟨oc_l_comes, od_l_comes, .func (PySem.W.fnOf "_law_comes" "_law_comes" (defArgs s_l_comes) (defBody s_l_comes) (defScope s_l_comes) .none kV_l_comes dc_l_comes pm_l_comes an_l_comes cd_l_comes ct_l_comes), sl_l_comes⟩)
    (c_l_comes : PySem.W.codeIn K cd_l_comes "_law_comes" = true)
    (k_l_comes : PySem.W.keepIn K (.ref f_l_comes) = true)
    (a_l_goes : PySem.W.nsIn K mainGlobals "_law_goes" = some (some (.ref f_l_goes)))
    (l_l_goes : K.lookup f_l_goes = some ⟨oc_l_goes, od_l_goes, .func (PySem.W.fnOf "_law_goes" "_law_goes" (defArgs s_l_goes) (defBody s_l_goes) (defScope s_l_goes) .none kV_l_goes dc_l_goes pm_l_goes an_l_goes cd_l_goes ct_l_goes), sl_l_goes⟩)
    (c_l_goes : PySem.W.codeIn K cd_l_goes "_law_goes" = true)
    (k_l_goes : PySem.W.keepIn K (.ref f_l_goes) = true)
    (a_l_looked_for : PySem.W.nsIn K mainGlobals "_law_looked_for" = some (some (.ref f_l_looked_for)))
    (l_l_looked_for : K.lookup f_l_looked_for = some ⟨oc_l_looked_for, od_l_looked_for, .func (PySem.W.fnOf "_law_looked_for" "_law_looked_for" (defArgs s_l_looked_for) (defBody s_l_looked_for) (defScope s_l_looked_for) .none kV_l_looked_for dc_l_looked_for pm_l_looked_for an_l_looked_for cd_l_looked_for ct_l_looked_for), sl_l_looked_for⟩)
    (c_l_looked_for : PySem.W.codeIn K cd_l_looked_for "_law_looked_for" = true)
    (k_l_looked_for : PySem.W.keepIn K (.ref f_l_looked_for) = true)
    (a_l_sits : PySem.W.nsIn K mainGlobals "_law_sits" = some (some (.ref f_l_sits)))
    (l_l_sits : K.lookup f_l_sits = some ⟨oc_l_sits, od_l_sits, .func (PySem.W.fnOf "_law_sits" "_law_sits" (defArgs s_l_sits) (defBody s_l_sits) (defScope s_l_sits) .none kV_l_sits dc_l_sits pm_l_sits an_l_sits cd_l_sits ct_l_sits), sl_l_sits⟩)
    (c_l_sits : PySem.W.codeIn K cd_l_sits "_law_sits" = true)
    (k_l_sits : PySem.W.keepIn K (.ref f_l_sits) = true)
    (a_l_there : PySem.W.nsIn K mainGlobals "_law_there" = some (some (.ref f_l_there)))
    (l_l_there : K.lookup f_l_there = some ⟨oc_l_there, od_l_there, .func (PySem.W.fnOf "_law_there" "_law_there" (defArgs s_l_there) (defBody s_l_there) (defScope s_l_there) .none kV_l_there dc_l_there pm_l_there an_l_there cd_l_there ct_l_there), sl_l_there⟩)
    (c_l_there : PySem.W.codeIn K cd_l_there "_law_there" = true)
    (k_l_there : PySem.W.keepIn K (.ref f_l_there) = true)
    (a_l_no_guest : PySem.W.nsIn K mainGlobals "_law_no_guest" = some (some (.ref f_l_no_guest)))
    (l_l_no_guest : K.lookup f_l_no_guest = some ⟨oc_l_no_guest, od_l_no_guest, .func (PySem.W.fnOf "_law_no_guest" "_law_no_guest" (defArgs s_l_no_guest) (defBody s_l_no_guest) (defScope s_l_no_guest) .none kV_l_no_guest dc_l_no_guest pm_l_no_guest an_l_no_guest cd_l_no_guest ct_l_no_guest), sl_l_no_guest⟩)
    (c_l_no_guest : PySem.W.codeIn K cd_l_no_guest "_law_no_guest" = true)
    (k_l_no_guest : PySem.W.keepIn K (.ref f_l_no_guest) = true)
    (a_l_most : PySem.W.nsIn K mainGlobals "_law_most" = some (some (.ref f_l_most)))
    (l_l_most : K.lookup f_l_most = some ⟨oc_l_most, od_l_most, .func (PySem.W.fnOf "_law_most" "_law_most" (defArgs s_l_most) (defBody s_l_most) (defScope s_l_most) .none kV_l_most dc_l_most pm_l_most an_l_most cd_l_most ct_l_most), sl_l_most⟩)
    (c_l_most : PySem.W.codeIn K cd_l_most "_law_most" = true)
    (k_l_most : PySem.W.keepIn K (.ref f_l_most) = true)
    (a_l_all : PySem.W.nsIn K mainGlobals "_law_all" = some (some (.ref f_l_all)))
    (l_l_all : K.lookup f_l_all = some ⟨oc_l_all, od_l_all, .func (PySem.W.fnOf "_law_all" "_law_all" (defArgs s_l_all) (defBody s_l_all) (defScope s_l_all) .none kV_l_all dc_l_all pm_l_all an_l_all cd_l_all ct_l_all), sl_l_all⟩)
    (c_l_all : PySem.W.codeIn K cd_l_all "_law_all" = true)
    (k_l_all : PySem.W.keepIn K (.ref f_l_all) = true)
    (a_l_house : PySem.W.nsIn K mainGlobals "_law_house" = some (some (.ref f_l_house)))
    (l_l_house : K.lookup f_l_house = some ⟨oc_l_house, od_l_house, .func (PySem.W.fnOf "_law_house" "_law_house" (defArgs s_l_house) (defBody s_l_house) (defScope s_l_house) .none kV_l_house dc_l_house pm_l_house an_l_house cd_l_house ct_l_house), sl_l_house⟩)
    (c_l_house : PySem.W.codeIn K cd_l_house "_law_house" = true)
    (k_l_house : PySem.W.keepIn K (.ref f_l_house) = true)
    (a_law : PySem.W.nsIn K mainGlobals "law" = some (some (.ref f_law)))
    (l_law : K.lookup f_law = some ⟨oc_law, od_law, .func (PySem.W.fnOf "law" "law" (defArgs s_law) (defBody s_law) (defScope s_law) .none kV_law dc_law pm_law an_law cd_law ct_law), sl_law⟩)
    (c_law : PySem.W.codeIn K cd_law "law" = true)
    (k_law : PySem.W.keepIn K (.ref f_law) = true) :
    ∃ fd : FuncData, (∀ (s : Shared) (v : Value), BindsTo s fd ⟨[v], []⟩ [("_law_script", v)]) ∧ ∀ base : Heap, K.In base → base.Ns mainGlobals mg → FnOk l.prog w K mg base CXL lawK fa fd ["_law_script"] (spLaw K) := by
  have e := hfa.symm.trans (PySem.W.mg_of X G a_law)
  cases e
  have T : Txt K mg ⟨c_RingError, c_NoGuest, c_NoSize, c_Twice, c_Away, c_Full, c_House⟩ := ⟨PySem.W.mg_of X G cm_RingError,
    PySem.W.mg_of X G cm_NoGuest,
    ⟨PySem.W.mg_of X G cm_NoGuest, ce_NoGuest, ⟨cf1_NoGuest, cf2_NoGuest, cf3_NoGuest, cf4_NoGuest, cf5_NoGuest⟩, (by rw [cc_NoGuest]; rfl)⟩,
    cx_NoGuest,
    cv_NoGuest,
    ci_NoGuest_RingError,
    ci_NoGuest_NoGuest,
    ci_NoGuest_NoSize,
    ci_NoGuest_Twice,
    ci_NoGuest_Away,
    ci_NoGuest_Full,
    PySem.W.mg_of X G cm_NoSize,
    ⟨PySem.W.mg_of X G cm_NoSize, ce_NoSize, ⟨cf1_NoSize, cf2_NoSize, cf3_NoSize, cf4_NoSize, cf5_NoSize⟩, (by rw [cc_NoSize]; rfl)⟩,
    cx_NoSize,
    cv_NoSize,
    ci_NoSize_RingError,
    ci_NoSize_NoGuest,
    ci_NoSize_NoSize,
    ci_NoSize_Twice,
    ci_NoSize_Away,
    ci_NoSize_Full,
    PySem.W.mg_of X G cm_Twice,
    ⟨PySem.W.mg_of X G cm_Twice, ce_Twice, ⟨cf1_Twice, cf2_Twice, cf3_Twice, cf4_Twice, cf5_Twice⟩, (by rw [cc_Twice]; rfl)⟩,
    cx_Twice,
    cv_Twice,
    ci_Twice_RingError,
    ci_Twice_NoGuest,
    ci_Twice_NoSize,
    ci_Twice_Twice,
    ci_Twice_Away,
    ci_Twice_Full,
    PySem.W.mg_of X G cm_Away,
    ⟨PySem.W.mg_of X G cm_Away, ce_Away, ⟨cf1_Away, cf2_Away, cf3_Away, cf4_Away, cf5_Away⟩, (by rw [cc_Away]; rfl)⟩,
    cx_Away,
    cv_Away,
    ci_Away_RingError,
    ci_Away_NoGuest,
    ci_Away_NoSize,
    ci_Away_Twice,
    ci_Away_Away,
    ci_Away_Full,
    PySem.W.mg_of X G cm_Full,
    ⟨PySem.W.mg_of X G cm_Full, ce_Full, ⟨cf1_Full, cf2_Full, cf3_Full, cf4_Full, cf5_Full⟩, (by rw [cc_Full]; rfl)⟩,
    cx_Full,
    cv_Full,
    ci_Full_RingError,
    ci_Full_NoGuest,
    ci_Full_NoSize,
    ci_Full_Twice,
    ci_Full_Away,
    ci_Full_Full,
    PySem.W.mg_of X G cm_House,
    ⟨hpg_House, hhd_House, hpo_House, hsa_House⟩,
    hn_most,
    hn_seats,
    ⟨_, _, ⟨_, _, _, _, _, _, _, _, _, _, rfl, l_House___init__, c_House___init__⟩, ⟨hmk_House, a_House___init__, i_House___init__, hkc_House⟩, (fun s us KX hl => match us, (show us.length = 2 by simpa using hl) with | [_, _], _ => BindsTo.of_defaults rfl (KX _ _ ldT) rfl rfl rfl), ⟨_, (fun s us KX hl => match us, (show us.length = 1 by simpa using hl) with | [_], _ => BindsTo.of_defaults rfl (KX _ _ ldT) rfl rfl rfl)⟩, (fun s u v KX => BindsTo.of_defaults rfl (KX _ _ ldT) rfl rfl rfl)⟩,
    ⟨_, _, fun_mk (st := s_House_come) l_House_come c_House_come k_House_come, (fun_mk (st := s_House_come) l_House_come c_House_come k_House_come).binds (ps := ["self", "guest"]) (fun _ _ _ _ _ _ us hl => match us, hl with | [_, _], _ => rfl), ⟨a_House_come, i_House_come, k_House_come⟩⟩,
    ⟨_, _, fun_mk (st := s_House_go) l_House_go c_House_go k_House_go, (fun_mk (st := s_House_go) l_House_go c_House_go k_House_go).binds (ps := ["self", "guest"]) (fun _ _ _ _ _ _ us hl => match us, hl with | [_, _], _ => rfl), ⟨a_House_go, i_House_go, k_House_go⟩⟩,
    ⟨_, _, fun_mk (st := s_House_seat_of) l_House_seat_of c_House_seat_of k_House_seat_of, (fun_mk (st := s_House_seat_of) l_House_seat_of c_House_seat_of k_House_seat_of).binds (ps := ["self", "guest"]) (fun _ _ _ _ _ _ us hl => match us, hl with | [_, _], _ => rfl), ⟨a_House_seat_of, i_House_seat_of, k_House_seat_of⟩⟩,
    ⟨_, _, fun_mk (st := s_House_row) l_House_row c_House_row k_House_row, (fun_mk (st := s_House_row) l_House_row c_House_row k_House_row).binds (ps := ["self"]) (fun _ _ _ _ _ _ us hl => match us, hl with | [_], _ => rfl), ⟨a_House_row, i_House_row, k_House_row⟩⟩,
    ⟨_, _, fun_mk (st := s_House_guests) l_House_guests c_House_guests k_House_guests, (fun_mk (st := s_House_guests) l_House_guests c_House_guests k_House_guests).binds (ps := ["self"]) (fun _ _ _ _ _ _ us hl => match us, hl with | [_], _ => rfl), ⟨a_House_guests, i_House_guests, k_House_guests⟩⟩,
    ⟨_, _, fun_mk (st := s_House_many) l_House_many c_House_many k_House_many, (fun_mk (st := s_House_many) l_House_many c_House_many k_House_many).binds (ps := ["self"]) (fun _ _ _ _ _ _ us hl => match us, hl with | [_], _ => rfl), ⟨a_House_many, i_House_many, k_House_many⟩⟩,
    PySem.W.mg_none_of X G n_ValueError,
    PySem.W.mg_none_of X G n_len,
    PySem.W.mg_none_of X G n_list,
    PySem.W.mg_none_of X G n_range,
    PySem.W.mg_none_of X G n_isinstance,
    PySem.W.mg_none_of X G n_int,
    PySem.W.mg_none_of X G n_sorted,
    PySem.W.mg_none_of X G n_bool,
    PySem.W.mg_none_of X G n_set,
    k_int_int,
    k_int_bool,
    k_bool_int,
    k_bool_bool,
    k_NoneType_bool,
    k_NoneType_int,
    k_str_bool,
    k_str_int,
    k_tuple_bool,
    k_tuple_int,
    k_list_bool,
    k_list_int,
    k_dict_bool,
    k_dict_int,
    k_list_list,
    ⟨_, PySem.W.mg_of X G g_FACTOR⟩,
    ⟨_, PySem.W.mg_of X G g_SPREAD⟩,
    ⟨_, PySem.W.mg_of X G g_HOUSE_RINGS, ⟨_, _, _, h_HOUSE_RINGS, rfl, rfl, (by show 6 ≤ sizeLine; decide), (.cons ⟨_, rfl⟩ (.cons ⟨_, rfl⟩ (.cons ⟨_, rfl⟩ (.cons ⟨_, rfl⟩ (.cons ⟨_, rfl⟩ (.cons ⟨_, rfl⟩ .nil))))))⟩⟩,
    ⟨_, PySem.W.mg_of X G g_GREATEST_MOST⟩,
    ⟨_, _, fun_mk (st := s_is_whole) l_is_whole c_is_whole k_is_whole, (fun_mk (st := s_is_whole) l_is_whole c_is_whole k_is_whole).binds (ps := ["thing"]) (fun _ _ _ _ _ _ us hl => match us, hl with | [_], _ => rfl), PySem.W.mg_of X G a_is_whole⟩,
    ⟨_, _, fun_mk (st := s_is_guest) l_is_guest c_is_guest k_is_guest, (fun_mk (st := s_is_guest) l_is_guest c_is_guest k_is_guest).binds (ps := ["thing"]) (fun _ _ _ _ _ _ us hl => match us, hl with | [_], _ => rfl), PySem.W.mg_of X G a_is_guest⟩,
    ⟨_, _, fun_mk (st := s_home) l_home c_home k_home, (fun_mk (st := s_home) l_home c_home k_home).binds (ps := ["guest", "many"]) (fun _ _ _ _ _ _ us hl => match us, hl with | [_, _], _ => rfl), PySem.W.mg_of X G a_home⟩,
    ⟨_, _, fun_mk (st := s_carried) l_carried c_carried k_carried, (fun_mk (st := s_carried) l_carried c_carried k_carried).binds (ps := ["guest", "at", "many"]) (fun _ _ _ _ _ _ us hl => match us, hl with | [_, _, _], _ => rfl), PySem.W.mg_of X G a_carried⟩,
    ⟨_, _, fun_mk (st := s_ahead) l_ahead c_ahead k_ahead, (fun_mk (st := s_ahead) l_ahead c_ahead k_ahead).binds (ps := ["one", "other", "at", "many"]) (fun _ _ _ _ _ _ us hl => match us, hl with | [_, _, _, _], _ => rfl), PySem.W.mg_of X G a_ahead⟩,
    ⟨_, _, fun_mk (st := s_room) l_room c_room k_room, (fun_mk (st := s_room) l_room c_room k_room).binds (ps := ["count"]) (fun _ _ _ _ _ _ us hl => match us, hl with | [_], _ => rfl), PySem.W.mg_of X G a_room⟩,
    ⟨_, _, fun_mk (st := s_check_guest) l_check_guest c_check_guest k_check_guest, (fun_mk (st := s_check_guest) l_check_guest c_check_guest k_check_guest).binds (ps := ["thing"]) (fun _ _ _ _ _ _ us hl => match us, hl with | [_], _ => rfl), PySem.W.mg_of X G a_check_guest⟩,
    ⟨_, _, fun_mk (st := s_passed) l_passed c_passed k_passed, (fun_mk (st := s_passed) l_passed c_passed k_passed).binds (ps := ["seats", "guest"]) (fun _ _ _ _ _ _ us hl => match us, hl with | [_, _], _ => rfl), PySem.W.mg_of X G a_passed⟩,
    ⟨_, _, fun_mk (st := s_place_of) l_place_of c_place_of k_place_of, (fun_mk (st := s_place_of) l_place_of c_place_of k_place_of).binds (ps := ["seats", "guest"]) (fun _ _ _ _ _ _ us hl => match us, hl with | [_, _], _ => rfl), PySem.W.mg_of X G a_place_of⟩,
    ⟨_, _, fun_mk (st := s_seat_in) l_seat_in c_seat_in k_seat_in, (fun_mk (st := s_seat_in) l_seat_in c_seat_in k_seat_in).binds (ps := ["seats", "guest"]) (fun _ _ _ _ _ _ us hl => match us, hl with | [_, _], _ => rfl), PySem.W.mg_of X G a_seat_in⟩,
    ⟨_, _, fun_mk (st := s_put) l_put c_put k_put, (fun_mk (st := s_put) l_put c_put k_put).binds (ps := ["seats", "guest"]) (fun _ _ _ _ _ _ us hl => match us, hl with | [_, _], _ => rfl), PySem.W.mg_of X G a_put⟩,
    ⟨_, _, fun_mk (st := s_seat_out) l_seat_out c_seat_out k_seat_out, (fun_mk (st := s_seat_out) l_seat_out c_seat_out k_seat_out).binds (ps := ["seats", "guest"]) (fun _ _ _ _ _ _ us hl => match us, hl with | [_, _], _ => rfl), PySem.W.mg_of X G a_seat_out⟩,
    ⟨_, _, fun_mk (st := s_check_list) l_check_list c_check_list k_check_list, (fun_mk (st := s_check_list) l_check_list c_check_list k_check_list).binds (ps := ["guests", "many"]) (fun _ _ _ _ _ _ us hl => match us, hl with | [_, _], _ => rfl), PySem.W.mg_of X G a_check_list⟩,
    ⟨_, _, fun_mk (st := s_seated) l_seated c_seated k_seated, (fun_mk (st := s_seated) l_seated c_seated k_seated).binds (ps := ["guests", "many"]) (fun _ _ _ _ _ _ us hl => match us, hl with | [_, _], _ => rfl), PySem.W.mg_of X G a_seated⟩,
    ⟨_, _, fun_mk (st := s_all_in) l_all_in c_all_in k_all_in, (fun_mk (st := s_all_in) l_all_in c_all_in k_all_in).binds (ps := ["seats"]) (fun _ _ _ _ _ _ us hl => match us, hl with | [_], _ => rfl), PySem.W.mg_of X G a_all_in⟩,
    ⟨_, _, fun_mk (st := s_fitted) l_fitted c_fitted k_fitted, (fun_mk (st := s_fitted) l_fitted c_fitted k_fitted).binds (ps := ["seats"]) (fun _ _ _ _ _ _ us hl => match us, hl with | [_], _ => rfl), PySem.W.mg_of X G a_fitted⟩,
    ⟨_, _, fun_mk (st := s_l_cell_at) l_l_cell_at c_l_cell_at k_l_cell_at, (fun_mk (st := s_l_cell_at) l_l_cell_at c_l_cell_at k_l_cell_at).binds (ps := ["_law_script", "_law_k"]) (fun _ _ _ _ _ _ us hl => match us, hl with | [_, _], _ => rfl), PySem.W.mg_of X G a_l_cell_at⟩,
    ⟨_, _, fun_mk (st := s_l_whole) l_l_whole c_l_whole k_l_whole, (fun_mk (st := s_l_whole) l_l_whole c_l_whole k_l_whole).binds (ps := ["_law_found"]) (fun _ _ _ _ _ _ us hl => match us, hl with | [_], _ => rfl), PySem.W.mg_of X G a_l_whole⟩,
    ⟨_, _, fun_mk (st := s_l_home) l_l_home c_l_home k_l_home, (fun_mk (st := s_l_home) l_l_home c_l_home k_l_home).binds (ps := ["_law_guest", "_law_many"]) (fun _ _ _ _ _ _ us hl => match us, hl with | [_, _], _ => rfl), PySem.W.mg_of X G a_l_home⟩,
    ⟨_, _, fun_mk (st := s_l_settled) l_l_settled c_l_settled k_l_settled, (fun_mk (st := s_l_settled) l_l_settled c_l_settled k_l_settled).binds (ps := ["_law_seats", "_law_guests"]) (fun _ _ _ _ _ _ us hl => match us, hl with | [_, _], _ => rfl), PySem.W.mg_of X G a_l_settled⟩,
    ⟨_, _, fun_mk (st := s_l_size) l_l_size c_l_size k_l_size, (fun_mk (st := s_l_size) l_l_size c_l_size k_l_size).binds (ps := ["_law_cell"]) (fun _ _ _ _ _ _ us hl => match us, hl with | [_], _ => rfl), PySem.W.mg_of X G a_l_size⟩,
    ⟨_, _, fun_mk (st := s_l_odd) l_l_odd c_l_odd k_l_odd, (fun_mk (st := s_l_odd) l_l_odd c_l_odd k_l_odd).binds (ps := ["_law_cell"]) (fun _ _ _ _ _ _ us hl => match us, hl with | [_], _ => rfl), PySem.W.mg_of X G a_l_odd⟩,
    ⟨_, _, fun_mk (st := s_l_kinds) l_l_kinds c_l_kinds k_l_kinds, (fun_mk (st := s_l_kinds) l_l_kinds c_l_kinds k_l_kinds).binds (ps := ["_law_e"]) (fun _ _ _ _ _ _ us hl => match us, hl with | [_], _ => rfl), PySem.W.mg_of X G a_l_kinds⟩,
    ⟨_, _, fun_mk (st := s_l_only) l_l_only c_l_only k_l_only, (fun_mk (st := s_l_only) l_l_only c_l_only k_l_only).binds (ps := ["_law_at"]) (fun _ _ _ _ _ _ us hl => match us, hl with | [_], _ => rfl), PySem.W.mg_of X G a_l_only⟩,
    ⟨_, _, fun_mk (st := s_l_made) l_l_made c_l_made k_l_made, (fun_mk (st := s_l_made) l_l_made c_l_made k_l_made).binds (ps := ["_law_size_here"]) (fun _ _ _ _ _ _ us hl => match us, hl with | [_], _ => rfl), PySem.W.mg_of X G a_l_made⟩,
    ⟨_, _, fun_mk (st := s_l_comes) l_l_comes c_l_comes k_l_comes, (fun_mk (st := s_l_comes) l_l_comes c_l_comes k_l_comes).binds (ps := ["_law_house_here", "_law_guest"]) (fun _ _ _ _ _ _ us hl => match us, hl with | [_, _], _ => rfl), PySem.W.mg_of X G a_l_comes⟩,
    ⟨_, _, fun_mk (st := s_l_goes) l_l_goes c_l_goes k_l_goes, (fun_mk (st := s_l_goes) l_l_goes c_l_goes k_l_goes).binds (ps := ["_law_house_here", "_law_guest"]) (fun _ _ _ _ _ _ us hl => match us, hl with | [_, _], _ => rfl), PySem.W.mg_of X G a_l_goes⟩,
    ⟨_, _, fun_mk (st := s_l_looked_for) l_l_looked_for c_l_looked_for k_l_looked_for, (fun_mk (st := s_l_looked_for) l_l_looked_for c_l_looked_for k_l_looked_for).binds (ps := ["_law_house_here", "_law_guest"]) (fun _ _ _ _ _ _ us hl => match us, hl with | [_, _], _ => rfl), PySem.W.mg_of X G a_l_looked_for⟩,
    ⟨_, _, fun_mk (st := s_l_sits) l_l_sits c_l_sits k_l_sits, (fun_mk (st := s_l_sits) l_l_sits c_l_sits k_l_sits).binds (ps := ["_law_house_here", "_law_guest"]) (fun _ _ _ _ _ _ us hl => match us, hl with | [_, _], _ => rfl), PySem.W.mg_of X G a_l_sits⟩,
    ⟨_, _, fun_mk (st := s_l_there) l_l_there c_l_there k_l_there, (fun_mk (st := s_l_there) l_l_there c_l_there k_l_there).binds (ps := ["_law_house_here", "_law_guests"]) (fun _ _ _ _ _ _ us hl => match us, hl with | [_, _], _ => rfl), PySem.W.mg_of X G a_l_there⟩,
    ⟨_, _, fun_mk (st := s_l_no_guest) l_l_no_guest c_l_no_guest k_l_no_guest, (fun_mk (st := s_l_no_guest) l_l_no_guest c_l_no_guest k_l_no_guest).binds (ps := ["_law_house_here", "_law_thing"]) (fun _ _ _ _ _ _ us hl => match us, hl with | [_, _], _ => rfl), PySem.W.mg_of X G a_l_no_guest⟩,
    ⟨_, _, fun_mk (st := s_l_most) l_l_most c_l_most k_l_most, (fun_mk (st := s_l_most) l_l_most c_l_most k_l_most).binds (ps := ["_law_cell"]) (fun _ _ _ _ _ _ us hl => match us, hl with | [_], _ => rfl), PySem.W.mg_of X G a_l_most⟩,
    ⟨_, _, fun_mk (st := s_l_all) l_l_all c_l_all k_l_all, (fun_mk (st := s_l_all) l_l_all c_l_all k_l_all).binds (ps := ["_law_cell", "_law_first", "_law_limit"]) (fun _ _ _ _ _ _ us hl => match us, hl with | [_, _, _], _ => rfl), PySem.W.mg_of X G a_l_all⟩,
    ⟨_, _, fun_mk (st := s_l_house) l_l_house c_l_house k_l_house, (fun_mk (st := s_l_house) l_l_house c_l_house k_l_house).binds (ps := ["_law_cell", "_law_limit"]) (fun _ _ _ _ _ _ us hl => match us, hl with | [_, _], _ => rfl), PySem.W.mg_of X G a_l_house⟩⟩
  exact ⟨PySem.W.fnOf "law" "law" (defArgs s_law) (defBody s_law) (defScope s_law) .none kV_law dc_law pm_law an_law cd_law ct_law, fun s v => .of_eq rfl, fun base _ _ => ok_law (fun_mk (st := s_law) l_law c_law k_law) T⟩
theorem walk {l : PySem.W.OpenLaw} {q : Program} {loose : List Str} {XP : (Str → Option Value) → Heap → Prop} {YP : World → Heap → Prop} {d : DefRec} {K : Params → PySem.W.Frag} (hn : l.most = some 63) (hdf : d.params.defaults = [])
    (hY : ∀ (w : World) (h : Heap), YP w h → (K w.params).In h)
    (F : ∀ (w : World) (mg : Str → Option Value) (fa : Addr) (h : Heap), (K w.params).In h → h.Ns mainGlobals mg → mg d.name = some (.ref fa) →
      ∃ fd : FuncData, (∀ (s : Shared) (u : Value), BindsTo s fd ⟨[u], []⟩ [("_law_script", u)]) ∧ ∀ base : Heap, (K w.params).In base → base.Ns mainGlobals mg → FnOk l.prog w (K w.params) mg base CXL lawK fa fd ["_law_script"] (spLaw (K w.params))) :
    PySem.W.WalkO q loose XP YP l.row.toRowW d [] (fun f vs => PySem.call f vs) :=
  L2.walk_of (n := 63) (k := lawK) (x := "_law_script") (CX := fun _ => CXL) (sp := fun w => spLaw (K w.params)) hn (by decide) hdf ⟨rfl, by decide, by decide⟩ hY F (fun _ _ a ns hl _ hS => ⟨a, ns, rfl, hS, hl, fun _ => rfl⟩) fun _ _ _ _ _ z => z
end Law
open PySem PySem.W PyProof.Rows
set_option maxRecDepth 100000 in
set_option maxHeartbeats 0 in
theorem PySem.Challenge.cw_ringseat_k10_a_house_holds : PySem.Challenge.rw_ringseat_k10_a_house.Holds := by
  w_on; o_law
  refine holds_open (q := Hd.Q) (loose := []) (N := 5770) (Yf := Hd.Yf) (Ya := Hd.Ya) (YP := InK Hd.K) (Xt := Hd.Xt) (XP := XL Hd.Q [])
    Hd.left (fun w s x => InK.of Hd.as_of w s x) (fun w h h' x k => InK.keeps w h h' x k)
    (fun s e => xl_of s (Bool.and_eq_true_iff.mp e).1) XL.keeps (by rfl) (by rfl) (by rfl) (fun s e => recFacts_of (Bool.and_eq_true_iff.mp e).2) (by rfl)
    (by first | assumption | decide +kernel) (by decide +kernel) ⟨rfl, rfl, rfl, rfl, rfl, by decide +kernel⟩ ?hw ?hc
  case hw => w_witness2
  k_fill
  refine Law.walk (l := PySem.Challenge.rw_ringseat_k10_a_house) rfl rfl (fun w h Y => Y) ?F
  case F =>
    intro w mg fa h KX G hmg
    refine' Law.all_mk KX G hmg ?cm_RingError ?cm_NoGuest ?cm_NoSize ?cm_Twice ?cm_Away ?cm_Full ?ce_NoGuest ?cf1_NoGuest ?cf2_NoGuest ?cf3_NoGuest ?cf4_NoGuest ?cf5_NoGuest ?cc_NoGuest ?cx_NoGuest ?cv_NoGuest ?ci_NoGuest_RingError ?ci_NoGuest_NoGuest ?ci_NoGuest_NoSize ?ci_NoGuest_Twice ?ci_NoGuest_Away ?ci_NoGuest_Full ?ce_NoSize ?cf1_NoSize ?cf2_NoSize ?cf3_NoSize ?cf4_NoSize ?cf5_NoSize ?cc_NoSize ?cx_NoSize ?cv_NoSize ?ci_NoSize_RingError ?ci_NoSize_NoGuest ?ci_NoSize_NoSize ?ci_NoSize_Twice ?ci_NoSize_Away ?ci_NoSize_Full ?ce_Twice ?cf1_Twice ?cf2_Twice ?cf3_Twice ?cf4_Twice ?cf5_Twice ?cc_Twice ?cx_Twice ?cv_Twice ?ci_Twice_RingError ?ci_Twice_NoGuest ?ci_Twice_NoSize ?ci_Twice_Twice ?ci_Twice_Away ?ci_Twice_Full ?ce_Away ?cf1_Away ?cf2_Away ?cf3_Away ?cf4_Away ?cf5_Away ?cc_Away ?cx_Away ?cv_Away ?ci_Away_RingError ?ci_Away_NoGuest ?ci_Away_NoSize ?ci_Away_Twice ?ci_Away_Away ?ci_Away_Full ?ce_Full ?cf1_Full ?cf2_Full ?cf3_Full ?cf4_Full ?cf5_Full ?cc_Full ?cx_Full ?cv_Full ?ci_Full_RingError ?ci_Full_NoGuest ?ci_Full_NoSize ?ci_Full_Twice ?ci_Full_Away ?ci_Full_Full ?cm_House ?hpg_House ?hhd_House ?hpo_House ?hsa_House ?hmk_House ?hkc_House ?hn_most ?hn_seats ?a_House___init__ ?i_House___init__ ?l_House___init__ ?c_House___init__ ?k_House___init__ ?ldT ?a_House_come ?i_House_come ?l_House_come ?c_House_come ?k_House_come ?a_House_go ?i_House_go ?l_House_go ?c_House_go ?k_House_go ?a_House_seat_of ?i_House_seat_of ?l_House_seat_of ?c_House_seat_of ?k_House_seat_of ?a_House_row ?i_House_row ?l_House_row ?c_House_row ?k_House_row ?a_House_guests ?i_House_guests ?l_House_guests ?c_House_guests ?k_House_guests ?a_House_many ?i_House_many ?l_House_many ?c_House_many ?k_House_many ?n_ValueError ?n_len ?n_list ?n_range ?n_isinstance ?n_int ?n_sorted ?n_bool ?n_set ?k_int_int ?k_int_bool ?k_bool_int ?k_bool_bool ?k_NoneType_bool ?k_NoneType_int ?k_str_bool ?k_str_int ?k_tuple_bool ?k_tuple_int ?k_list_bool ?k_list_int ?k_dict_bool ?k_dict_int ?k_list_list ?g_FACTOR ?g_SPREAD ?g_HOUSE_RINGS ?h_HOUSE_RINGS ?g_GREATEST_MOST ?a_is_whole ?l_is_whole ?c_is_whole ?k_is_whole ?a_is_guest ?l_is_guest ?c_is_guest ?k_is_guest ?a_home ?l_home ?c_home ?k_home ?a_carried ?l_carried ?c_carried ?k_carried ?a_ahead ?l_ahead ?c_ahead ?k_ahead ?a_room ?l_room ?c_room ?k_room ?a_check_guest ?l_check_guest ?c_check_guest ?k_check_guest ?a_passed ?l_passed ?c_passed ?k_passed ?a_place_of ?l_place_of ?c_place_of ?k_place_of ?a_seat_in ?l_seat_in ?c_seat_in ?k_seat_in ?a_put ?l_put ?c_put ?k_put ?a_seat_out ?l_seat_out ?c_seat_out ?k_seat_out ?a_check_list ?l_check_list ?c_check_list ?k_check_list ?a_seated ?l_seated ?c_seated ?k_seated ?a_all_in ?l_all_in ?c_all_in ?k_all_in ?a_fitted ?l_fitted ?c_fitted ?k_fitted ?a_l_cell_at ?l_l_cell_at ?c_l_cell_at ?k_l_cell_at ?a_l_whole ?l_l_whole ?c_l_whole ?k_l_whole ?a_l_home ?l_l_home ?c_l_home ?k_l_home ?a_l_settled ?l_l_settled ?c_l_settled ?k_l_settled ?a_l_size ?l_l_size ?c_l_size ?k_l_size ?a_l_odd ?l_l_odd ?c_l_odd ?k_l_odd ?a_l_kinds ?l_l_kinds ?c_l_kinds ?k_l_kinds ?a_l_only ?l_l_only ?c_l_only ?k_l_only ?a_l_made ?l_l_made ?c_l_made ?k_l_made ?a_l_comes ?l_l_comes ?c_l_comes ?k_l_comes ?a_l_goes ?l_l_goes ?c_l_goes ?k_l_goes ?a_l_looked_for ?l_l_looked_for ?c_l_looked_for ?k_l_looked_for ?a_l_sits ?l_l_sits ?c_l_sits ?k_l_sits ?a_l_there ?l_l_there ?c_l_there ?k_l_there ?a_l_no_guest ?l_l_no_guest ?c_l_no_guest ?k_l_no_guest ?a_l_most ?l_l_most ?c_l_most ?k_l_most ?a_l_all ?l_l_all ?c_l_all ?k_l_all ?a_l_house ?l_l_house ?c_l_house ?k_l_house ?a_law ?l_law ?c_law ?k_law
    (case cm_RingError => k_is)
    (case cm_NoGuest => k_is)
    (case cm_NoSize => k_is)
    (case cm_Twice => k_is)
    (case cm_Away => k_is)
    (case cm_Full => k_is)
    (case ce_NoGuest => k_exc)
    (case cf1_NoGuest => k_is)
    (case cf2_NoGuest => k_is)
    (case cf3_NoGuest => k_is)
    (case cf4_NoGuest => k_is)
    (case cf5_NoGuest => k_is)
    (case cc_NoGuest => k_is)
    (case cx_NoGuest => kts_exm)
    (case cv_NoGuest => kit_is)
    (case ci_NoGuest_RingError => kit_is)
    (case ci_NoGuest_NoGuest => kit_is)
    (case ci_NoGuest_NoSize => kit_is)
    (case ci_NoGuest_Twice => kit_is)
    (case ci_NoGuest_Away => kit_is)
    (case ci_NoGuest_Full => kit_is)
    (case ce_NoSize => k_exc)
    (case cf1_NoSize => k_is)
    (case cf2_NoSize => k_is)
    (case cf3_NoSize => k_is)
    (case cf4_NoSize => k_is)
    (case cf5_NoSize => k_is)
    (case cc_NoSize => k_is)
    (case cx_NoSize => kts_exm)
    (case cv_NoSize => kit_is)
    (case ci_NoSize_RingError => kit_is)
    (case ci_NoSize_NoGuest => kit_is)
    (case ci_NoSize_NoSize => kit_is)
    (case ci_NoSize_Twice => kit_is)
    (case ci_NoSize_Away => kit_is)
    (case ci_NoSize_Full => kit_is)
    (case ce_Twice => k_exc)
    (case cf1_Twice => k_is)
    (case cf2_Twice => k_is)
    (case cf3_Twice => k_is)
    (case cf4_Twice => k_is)
    (case cf5_Twice => k_is)
    (case cc_Twice => k_is)
    (case cx_Twice => kts_exm)
    (case cv_Twice => kit_is)
    (case ci_Twice_RingError => kit_is)
    (case ci_Twice_NoGuest => kit_is)
    (case ci_Twice_NoSize => kit_is)
    (case ci_Twice_Twice => kit_is)
    (case ci_Twice_Away => kit_is)
    (case ci_Twice_Full => kit_is)
    (case ce_Away => k_exc)
    (case cf1_Away => k_is)
    (case cf2_Away => k_is)
    (case cf3_Away => k_is)
    (case cf4_Away => k_is)
    (case cf5_Away => k_is)
    (case cc_Away => k_is)
    (case cx_Away => kts_exm)
    (case cv_Away => kit_is)
    (case ci_Away_RingError => kit_is)
    (case ci_Away_NoGuest => kit_is)
    (case ci_Away_NoSize => kit_is)
    (case ci_Away_Twice => kit_is)
    (case ci_Away_Away => kit_is)
    (case ci_Away_Full => kit_is)
    (case ce_Full => k_exc)
    (case cf1_Full => k_is)
    (case cf2_Full => k_is)
    (case cf3_Full => k_is)
    (case cf4_Full => k_is)
    (case cf5_Full => k_is)
    (case cc_Full => k_is)
    (case cx_Full => kts_exm)
    (case cv_Full => kit_is)
    (case ci_Full_RingError => kit_is)
    (case ci_Full_NoGuest => kit_is)
    (case ci_Full_NoSize => kit_is)
    (case ci_Full_Twice => kit_is)
    (case ci_Full_Away => kit_is)
    (case ci_Full_Full => kit_is)
    (case cm_House => k_is)
    (case hpg_House => k_is)
    (case hhd_House => k_is)
    (case hpo_House => k_is)
    (case hsa_House => k_is)
    (case hmk_House => k_is)
    (case hkc_House => k_is)
    (case hn_most => k_is)
    (case hn_seats => k_is)
    (case a_House___init__ => k_is)
    (case i_House___init__ => k_is)
    (case l_House___init__ => k_is)
    (case c_House___init__ => k_is)
    (case k_House___init__ => k_is)
    (case ldT => k_is)
    (case a_House_come => k_is)
    (case i_House_come => k_is)
    (case l_House_come => k_is)
    (case c_House_come => k_is)
    (case k_House_come => k_is)
    (case a_House_go => k_is)
    (case i_House_go => k_is)
    (case l_House_go => k_is)
    (case c_House_go => k_is)
    (case k_House_go => k_is)
    (case a_House_seat_of => k_is)
    (case i_House_seat_of => k_is)
    (case l_House_seat_of => k_is)
    (case c_House_seat_of => k_is)
    (case k_House_seat_of => k_is)
    (case a_House_row => k_is)
    (case i_House_row => k_is)
    (case l_House_row => k_is)
    (case c_House_row => k_is)
    (case k_House_row => k_is)
    (case a_House_guests => k_is)
    (case i_House_guests => k_is)
    (case l_House_guests => k_is)
    (case c_House_guests => k_is)
    (case k_House_guests => k_is)
    (case a_House_many => k_is)
    (case i_House_many => k_is)
    (case l_House_many => k_is)
    (case c_House_many => k_is)
    (case k_House_many => k_is)
    (case n_ValueError => k_is)
    (case n_len => k_is)
    (case n_list => k_is)
    (case n_range => k_is)
    (case n_isinstance => k_is)
    (case n_int => k_is)
    (case n_sorted => k_is)
    (case n_bool => k_is)
    (case n_set => k_is)
    (case k_int_int => kit_is)
    (case k_int_bool => kit_is)
    (case k_bool_int => kit_is)
    (case k_bool_bool => kit_is)
    (case k_NoneType_bool => kit_is)
    (case k_NoneType_int => kit_is)
    (case k_str_bool => kit_is)
    (case k_str_int => kit_is)
    (case k_tuple_bool => kit_is)
    (case k_tuple_int => kit_is)
    (case k_list_bool => kit_is)
    (case k_list_int => kit_is)
    (case k_dict_bool => kit_is)
    (case k_dict_int => kit_is)
    (case k_list_list => kit_is)
    (case g_FACTOR => k_is)
    (case g_SPREAD => k_is)
    (case g_HOUSE_RINGS => k_is)
    (case h_HOUSE_RINGS => k_is)
    (case g_GREATEST_MOST => k_is)
    (case a_is_whole => k_is)
    (case l_is_whole => k_is)
    (case c_is_whole => k_is)
    (case k_is_whole => k_is)
    (case a_is_guest => k_is)
    (case l_is_guest => k_is)
    (case c_is_guest => k_is)
    (case k_is_guest => k_is)
    (case a_home => k_is)
    (case l_home => k_is)
    (case c_home => k_is)
    (case k_home => k_is)
    (case a_carried => k_is)
    (case l_carried => k_is)
    (case c_carried => k_is)
    (case k_carried => k_is)
    (case a_ahead => k_is)
    (case l_ahead => k_is)
    (case c_ahead => k_is)
    (case k_ahead => k_is)
    (case a_room => k_is)
    (case l_room => k_is)
    (case c_room => k_is)
    (case k_room => k_is)
    (case a_check_guest => k_is)
    (case l_check_guest => k_is)
    (case c_check_guest => k_is)
    (case k_check_guest => k_is)
    (case a_passed => k_is)
    (case l_passed => k_is)
    (case c_passed => k_is)
    (case k_passed => k_is)
    (case a_place_of => k_is)
    (case l_place_of => k_is)
    (case c_place_of => k_is)
    (case k_place_of => k_is)
    (case a_seat_in => k_is)
    (case l_seat_in => k_is)
    (case c_seat_in => k_is)
    (case k_seat_in => k_is)
    (case a_put => k_is)
    (case l_put => k_is)
    (case c_put => k_is)
    (case k_put => k_is)
    (case a_seat_out => k_is)
    (case l_seat_out => k_is)
    (case c_seat_out => k_is)
    (case k_seat_out => k_is)
    (case a_check_list => k_is)
    (case l_check_list => k_is)
    (case c_check_list => k_is)
    (case k_check_list => k_is)
    (case a_seated => k_is)
    (case l_seated => k_is)
    (case c_seated => k_is)
    (case k_seated => k_is)
    (case a_all_in => k_is)
    (case l_all_in => k_is)
    (case c_all_in => k_is)
    (case k_all_in => k_is)
    (case a_fitted => k_is)
    (case l_fitted => k_is)
    (case c_fitted => k_is)
    (case k_fitted => k_is)
    (case a_l_cell_at => k_is)
    (case l_l_cell_at => k_is)
    (case c_l_cell_at => k_is)
    (case k_l_cell_at => k_is)
    (case a_l_whole => k_is)
    (case l_l_whole => k_is)
    (case c_l_whole => k_is)
    (case k_l_whole => k_is)
    (case a_l_home => k_is)
    (case l_l_home => k_is)
    (case c_l_home => k_is)
    (case k_l_home => k_is)
    (case a_l_settled => k_is)
    (case l_l_settled => k_is)
    (case c_l_settled => k_is)
    (case k_l_settled => k_is)
    (case a_l_size => k_is)
    (case l_l_size => k_is)
    (case c_l_size => k_is)
    (case k_l_size => k_is)
    (case a_l_odd => k_is)
    (case l_l_odd => k_is)
    (case c_l_odd => k_is)
    (case k_l_odd => k_is)
    (case a_l_kinds => k_is)
    (case l_l_kinds => k_is)
    (case c_l_kinds => k_is)
    (case k_l_kinds => k_is)
    (case a_l_only => k_is)
    (case l_l_only => k_is)
    (case c_l_only => k_is)
    (case k_l_only => k_is)
    (case a_l_made => k_is)
    (case l_l_made => k_is)
    (case c_l_made => k_is)
    (case k_l_made => k_is)
    (case a_l_comes => k_is)
    (case l_l_comes => k_is)
    (case c_l_comes => k_is)
    (case k_l_comes => k_is)
    (case a_l_goes => k_is)
    (case l_l_goes => k_is)
    (case c_l_goes => k_is)
    (case k_l_goes => k_is)
    (case a_l_looked_for => k_is)
    (case l_l_looked_for => k_is)
    (case c_l_looked_for => k_is)
    (case k_l_looked_for => k_is)
    (case a_l_sits => k_is)
    (case l_l_sits => k_is)
    (case c_l_sits => k_is)
    (case k_l_sits => k_is)
    (case a_l_there => k_is)
    (case l_l_there => k_is)
    (case c_l_there => k_is)
    (case k_l_there => k_is)
    (case a_l_no_guest => k_is)
    (case l_l_no_guest => k_is)
    (case c_l_no_guest => k_is)
    (case k_l_no_guest => k_is)
    (case a_l_most => k_is)
    (case l_l_most => k_is)
    (case c_l_most => k_is)
    (case k_l_most => k_is)
    (case a_l_all => k_is)
    (case l_l_all => k_is)
    (case c_l_all => k_is)
    (case k_l_all => k_is)
    (case a_l_house => k_is)
    (case l_l_house => k_is)
    (case c_l_house => k_is)
    (case k_l_house => k_is)
    (case a_law => k_is)
    (case l_law => k_is)
    (case c_law => k_is)
    (case k_law => k_is)
