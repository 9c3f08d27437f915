import PyProof.Rows.All
import KE.OsGo
import Open.SpecLaws
import PySem.Challenge.RW_smallcore_s01_answers
import Wide.All
import OpenK.AllK
import Wide.FinOn
import Open.Tops
import PyProof.EqAt
import PyProof.EqKinds
import PyProof.TupleCall
import KE.BitLaws
import PySg08
import KE.KBits
set_option Elab.async false
set_option linter.all false
set_option maxRecDepth 100000
set_option maxHeartbeats 0
section
namespace Sp8
open PySem PySem.Spec PyProof.Rows PySem.W
abbrev pw : Program := PySem.Challenge.pw_smallcore_s01_answers
abbrev rw8 := PySem.Challenge.rw_smallcore_s01_answers
theorem band {a b : Bool} (h : a = true) (k : b = true) : (a && b) = true := by rw [h, k]; rfl
theorem w_1 : (sreFenced pw.main && ((moduleNames pw.main.body).isEmpty || lookedIntoSs (moduleNames pw.main.body) pw.main.body)) = true := by kernel_rfl
theorem w_2 : namesResolve pw = true := by kernel_rfl
theorem w_3 : pw.boundNames.all (fun n => !worldNames.contains n) = true := by kernel_rfl
theorem w_4 : noRoadLSs { strict := !(importedModules pw.main.body).all cThrough.contains, foot := none, bare := (["vars", "dir", "locals"] : List Str).filter (readsOut pw pw.main.body) } pw.main.body = true := by kernel_rfl
theorem w_5 : namesMeet pw pw.main.body (fun _ n => attrL n) = true := by kernel_rfl
theorem w_6 : pw.boundNames.contains rw8.name = true := by kernel_rfl
theorem w_7 : (!startupNames.contains rw8.name) = true := by kernel_rfl
theorem w_8 : specDef pw rw8.name rw8.args.length = true := by kernel_rfl
theorem w_9 : rw8.args.all Codec.fits = true := by kernel_rfl
theorem w_10 : rw8.ret.ok = true := by kernel_rfl
theorem well_of {r : OpenSpec} (h1 : (sreFenced r.prog.main && ((moduleNames r.prog.main.body).isEmpty || lookedIntoSs (moduleNames r.prog.main.body) r.prog.main.body)) = true) (h2 : namesResolve r.prog = true) (h3 : r.prog.boundNames.all (fun n => !worldNames.contains n) = true)
    (h4 : noRoadLSs { strict := !(importedModules r.prog.main.body).all cThrough.contains, foot := none, bare := (["vars", "dir", "locals"] : List Str).filter (readsOut r.prog r.prog.main.body) } r.prog.main.body = true) (h5 : namesMeet r.prog r.prog.main.body (fun _ n => attrL n) = true)
    (h6 : r.prog.boundNames.contains r.name = true) (h7 : (!startupNames.contains r.name) = true) (h8 : specDef r.prog r.name r.args.length = true) (h9 : r.args.all Codec.fits = true) (h10 : r.ret.ok = true) : r.wellSaid = true :=
  band (band (band (band (band (band (band (band (band h1 h2) h3) h4) h5) h6) h7) h8) h9) h10
theorem well8 : rw8.wellSaid = true := well_of w_1 w_2 w_3 w_4 w_5 w_6 w_7 w_8 w_9 w_10
open TablesWhole in
theorem wSs_all (top : Scope) (cx : TablesWhole.Ctx) (sc : Scope) : ∀ l : List Stmt, l.all (wS holds top cx sc) = true → wSs holds top cx sc l = true
  | [], _ => by rw [wSs]; rfl
  | s :: r, h => by
    rw [List.all_cons, Bool.and_eq_true] at h
    rw [wSs]
    exact band h.1 (wSs_all top cx sc r h.2)
open TablesWhole in
theorem tables_of {p : Program} (hm : p.modules = []) (hp : p.parses = []) (hh : p.harvested = []) (told : wSs gather p.main.scope ⟨p.main.scope, [], [], [], none⟩ p.main.scope p.main.body = []) (no : noTwice p.main.scope = true)
    (all : p.main.body.all (wS holds p.main.scope ⟨p.main.scope, [], [], [], none⟩ p.main.scope) = true) : p.tablesWhole = true := by
  have h := wSs_all p.main.scope ⟨p.main.scope, [], [], [], none⟩ p.main.scope p.main.body all
  unfold Program.tablesWhole wProgram
  rw [hm, hp, hh]
  have hw : wModule holds p.main = true := by
    show (true && (noTwice p.main.scope && (wSs holds p.main.scope ⟨p.main.scope, [], wSs gather p.main.scope ⟨p.main.scope, [], [], [], none⟩ p.main.scope p.main.body, [], none⟩ p.main.scope p.main.body && true))) = true
    rw [told, no, h]
    rfl
  rw [hw]
  rfl
theorem all_cut {α : Type} {f : α → Bool} {l : List α} (n : Nat) (h : (l.take n).all f = true) (k : (l.drop n).all f = true) : l.all f = true := by
  rw [← List.take_append_drop n l, List.all_append]; exact band h k
open TablesWhole in
abbrev wst : Stmt → Bool := wS holds pw.main.scope ⟨pw.main.scope, [], [], [], none⟩ pw.main.scope
open TablesWhole in
theorem t_told : wSs gather pw.main.scope ⟨pw.main.scope, [], [], [], none⟩ pw.main.scope pw.main.body = [] := by kernel_rfl
theorem t_1 : (pw.main.body.take 50).all wst = true := by kernel_rfl
theorem t_2 : ((pw.main.body.drop 50).take 50).all wst = true := by kernel_rfl
theorem t_3 : (((pw.main.body.drop 50).drop 50).take 40).all wst = true := by kernel_rfl
theorem t_4 : ((((pw.main.body.drop 50).drop 50).drop 40).take 30).all wst = true := by kernel_rfl
theorem t_5 : ((((pw.main.body.drop 50).drop 50).drop 40).drop 30).all wst = true := by kernel_rfl
open TablesWhole in
theorem t_no : noTwice pw.main.scope = true := by kernel_rfl
theorem t_all : pw.tablesWhole = true := tables_of rfl rfl rfl t_told t_no (all_cut 50 t_1 (all_cut 50 t_2 (all_cut 40 t_3 (all_cut 30 t_4 t_5))))
theorem e_6 : rw8.prog.bare := ⟨rfl, rfl, rfl, rfl, rfl, t_all⟩
theorem e_5 : opensWell rw8.prog = true := by kernel_rfl
end Sp8
end
section
namespace Z8
open PySem PySem.W PyProof.Rows
noncomputable section
def zs (s : Str) (t : Nat) : Value := .str s t
def zi (n : Int) (t : Nat) : Value := .int n t
def zr (a : Nat) : Value := .ref a
def oT (l : List Value) : Obj := { cls := .type "tuple", data := .seq ⟨l⟩ }
def oN (l : List Value) : Obj := { cls := .none, data := .fields ⟨l⟩ }
def oF (c : String) (l : List Value) : Obj := { cls := .type c, data := .fields ⟨l⟩ }
def oD (n : Nat) (l : List DictEntry) : Obj := { cls := .type "dict", data := .dict ⟨l⟩ n }
def es (P : Params) (s : Str) (t : Nat) (v : Value) : DictEntry := ⟨PyData.keyHash P s, .str s t, v⟩
def er (P : Params) (s : Str) (t a : Nat) : DictEntry := ⟨PyData.keyHash P s, .str s t, .ref a⟩
def ei (n : Int) (t : Nat) (v : Value) : DictEntry := ⟨n, .int n t, v⟩
def eo (h : Int) (k v : Value) : DictEntry := ⟨h, k, v⟩
def ej (n : Int) (t : Nat) (s : Str) : DictEntry := ⟨n, .int n t, .str s (Nat.succ t)⟩
def ek (h : Int) (a : Nat) (s : Str) (t : Nat) : DictEntry := ⟨h, .ref a, .str s t⟩
def el (h : Int) (a b : Nat) : DictEntry := ⟨h, .ref a, .ref b⟩
def tp (i : Nat) : Stmt := PySem.Challenge.pw_smallcore_s01_answers.main.body.getD i (.Pass ⟨0, 0, 0, 0⟩)
def tc (s : Stmt) (j : Nat) : Stmt := match s with
  | .ClassDef _ _ _ body _ _ _ _ _ _ _ => body.getD j (.Pass ⟨0, 0, 0, 0⟩)
  | _ => .Pass ⟨0, 0, 0, 0⟩
def fX (s : Stmt) (q : Str) (cl : Value) (g : Nat) (m c : Value) : Obj := match s with
  | .FunctionDef n a b _ _ _ sc _ _ _ => { cls := cl, data := .func { name := n, qualname := q, params := a, body := .stmts b, scope := sc, globals := g, closure := [], defaults := .none, kwdefaults := .none, pyModule := m, code := c } }
  | _ => { cls := cl }
def fT (s : Stmt) (q : Str) : Obj := fX s q .none 0 .none .none
def fG (s : Stmt) (q m : Str) (mt c : Nat) : Obj := fX s q (.type "function") 3 (.str m mt) (.ref c)
def dn (s : Stmt) : Str := match s with
  | .FunctionDef n _ _ _ _ _ _ _ _ _ => n
  | _ => "x"
def vt (l : List Str) : Nat → List Value := List.rec (fun _ => []) (fun x _ ih t => .str x t :: ih (Nat.succ t)) l
def ln (l : List Str) : Nat := List.rec 0 (fun _ _ n => Nat.succ n) l
def d7 (m : Str) (mt : Nat) (s : Stmt) (q : Str) (a t l c f : Nat) (vs : List Str) : List Obj :=
  [oT [], oN [], oT (vt vs (Nat.add t 3)), oT [], fT s q, oF "code" [zs (dn s) t, zs q (Nat.add t 1), zs "/claim/cut.py" (Nat.add t 2), zi (Int.ofNat l) 0, zi (Int.ofNat c) 0, zi 0 0, zi 0 0, zi (Int.ofNat f) 0, zr a, .bool true, zi 181 0, zr (Nat.add a 1), .none, zr (Nat.add a 2), zr (Nat.add a 3), zr (Nat.add a 4), zi (Int.ofNat (Nat.add t (Nat.add 3 (ln vs)))) 0, zi (Int.ofNat l) 0, zs "/claim/cut.py" (Nat.add t (Nat.add 4 (ln vs)))], fG s q m mt (Nat.add a 5)]
def dv (m : Str) (mt i a t l c : Nat) (vs : List Str) : List Obj := d7 m mt (tp i) (dn (tp i)) a t l c 3 vs
def v0 := dv "smallcore.bits" 187
def v1 := dv "smallcore.arithmetic" 234
def v2 := dv "smallcore.instruction" 544
def v3 := dv "smallcore.long_words" 679
def v4 := dv "smallcore.short_words" 1204
def v5 := dv "smallcore.execute" 1698
def v6 := dv "smallcore.desk" 2182
def it (l : List Nat) : Nat → List Value := List.rec (fun _ => []) (fun x _ ih t => .int (Int.ofNat x) t :: ih (Nat.succ t)) l
def oI (t : Nat) (l : List Nat) : Obj := oT (it l t)
def ers (P : Params) (l : List (Str × Nat × Nat)) : List DictEntry := List.rec [] (fun x _ ih => er P x.1 x.2.1 x.2.2 :: ih) l
def pk (l : List Obj) : Bool → List Obj := List.rec (fun _ => []) (fun x _ ih b => Bool.rec (ih true) (x :: ih false) b) l
def mT (n : Nat) : List Obj → BT := Nat.rec (fun _ => .nil) (fun _ ih l => List.rec .nil (fun x r _ => .node x (ih (pk r true)) (ih (pk r false))) l) n
def fz (l : List (Nat × Nat)) (r : List Value) : List Value := List.rec r (fun x _ ih => zi (Int.ofNat x.1) 0 :: zi 0 0 :: zr x.2 :: ih) l
variable (P : Params)
def b0 (r : List Obj) : List Obj := r
def g0_0 : List DictEntry := [es P "__name__" 165 (zs "smallcore.desk" 2182), es P "__doc__" 166 (.none), es P "__package__" 167 (.none), es P "__loader__" 168 (.builtin "__main__.__loader__#opaque"), es P "__spec__" 169 (.none)] ++ (ers P [("__annotations__", 170, 6), ("__builtins__", 171, 4)] ++ ([es P "__file__" 173 (zs "/claim/cut.py" 172), es P "__cached__" 174 (.none)]))
def e0 (r : List DictEntry) : List DictEntry := (g0_0 P ++ r)
def f0 (r : List Value) : List Value := fz [] r
def hd (n : Nat) (l : List DictEntry) (f : List Value) (r : List Obj) : List Obj := (boot_o_0 P) :: (boot_o_1 P) :: (boot_o_2 P) :: (oD n l) :: (boot_o_4 P) :: (boot_o_5 P) :: (boot_o_6 P) :: (boot_o_7 P) :: (boot_o_8 P) :: (boot_o_9 P) :: (boot_o_10 P) :: (oT []) :: (oN f) :: (oF "code" [zs "<module>" 182, zs "<module>" 183, zs "/claim/cut.py" 184, zi 1 0, zi 0 0, zi 0 0, zi 0 0, zi 0 0, zr 11, .bool false, zi 181 0, zr 12, .none, .none, .none, .none, zi 185 0, zi 1 0, zs "/claim/cut.py" 186]) :: (PySem.Obj.mk (.type "frame") Option.none PySem.Data.plain #[(some (zr 13)), (some (zr 3)), (some (zr 3)), Option.none, (some (zs "__main__" 164)), Option.none, (some (zr 0))]) :: r
def t0 : BT := mT 11 (hd P 9 ((e0 P []).set 0 (es P "__name__" 165 (zs "__main__" 164))) (f0 []) (b0 []))
def c0 : List Obj := v0 2 15 191 3 1 ["number"] ++ (v0 3 22 198 5 3 ["word", "low", "width"] ++ (v0 4 29 207 7 2 ["number", "width", "lowest"] ++ (v0 5 36 216 12 2 ["number", "width"] ++ (v0 6 43 224 14 2 ["word", "pieces", "number", "piece"] ++ (v1 8 50 236 20 2 ["a", "b"] ++ (v1 9 57 244 22 2 ["a", "b"] ++ (v1 10 64 252 24 2 ["a", "b"] ++ (v1 11 71 260 26 2 ["a", "b"] ++ (v1 12 78 268 28 2 ["a", "b"] ++ (v1 13 85 276 30 2 ["a", "b"] ++ (v1 14 92 284 32 2 ["a", "b"])))))))))))
def b1 (r : List Obj) : List Obj := b0 (c0 ++ r)
def g1_0 : List DictEntry := [es P "MASK_64" 190 (zi 18446744073709551615 189)] ++ (ers P [("wrap", 197, 21), ("field", 206, 28), ("signed", 215, 35), ("extend", 223, 42), ("gather", 233, 49), ("add", 243, 56), ("subtract", 251, 63), ("bit_and", 259, 70), ("bit_or", 267, 77), ("bit_xor", 275, 84), ("shift_left", 283, 91), ("shift_right", 291, 98)])
def e1 (r : List DictEntry) : List DictEntry := e0 P (g1_0 P ++ r)
def f1 (r : List Value) : List Value := f0 (fz [(3, 20), (5, 27), (7, 34), (12, 41), (14, 48), (20, 55), (22, 62), (24, 69), (26, 76), (28, 83), (30, 90), (32, 97)] r)
def t1 : BT := mT 11 (hd P 22 ((e1 P []).set 0 (es P "__name__" 165 (zs "smallcore.arithmetic" 234))) (f1 []) (b1 []))
def c1 : List Obj := v1 15 99 292 34 2 ["a", "b"] ++ (v1 16 106 300 36 2 ["a", "b"] ++ (v1 17 113 308 38 2 ["a", "b"] ++ (v1 18 120 316 40 2 ["a", "b"] ++ (v1 19 127 324 42 2 ["a", "b"] ++ (v1 20 134 332 44 2 ["a", "b"] ++ (v1 21 141 340 46 2 ["a", "b"] ++ (v1 22 148 348 48 2 ["a", "b"] ++ (v1 23 155 356 50 2 ["a", "b"] ++ (v1 24 162 364 52 2 ["a", "b"] ++ (v1 25 169 372 54 2 ["a", "b"] ++ (v1 26 176 380 56 2 ["a", "b"] ++ (v1 27 183 388 58 2 ["a", "b"]))))))))))))
def b2 (r : List Obj) : List Obj := b1 (c1 ++ r)
def g2_0 : List DictEntry := ers P [("shift_right_signed", 299, 105), ("is_less", 307, 112), ("is_less_signed", 315, 119), ("add_32", 323, 126), ("subtract_32", 331, 133), ("shift_left_32", 339, 140), ("shift_right_32", 347, 147), ("shift_right_signed_32", 355, 154), ("multiply", 363, 161), ("multiply_high", 371, 168), ("multiply_high_signed", 379, 175), ("multiply_high_mixed", 387, 182), ("multiply_32", 395, 189)]
def e2 (r : List DictEntry) : List DictEntry := e1 P (g2_0 P ++ r)
def f2 (r : List Value) : List Value := f1 (fz [(34, 104), (36, 111), (38, 118), (40, 125), (42, 132), (44, 139), (46, 146), (48, 153), (50, 160), (52, 167), (54, 174), (56, 181), (58, 188)] r)
def t2 : BT := mT 11 (hd P 35 ((e2 P []).set 0 (es P "__name__" 165 (zs "smallcore.arithmetic" 234))) (f2 []) (b2 []))
def c2 : List Obj := v1 28 190 396 60 2 ["a", "b", "size"] ++ (v1 29 197 405 67 2 ["a", "b"] ++ (v1 30 204 413 69 2 ["a", "b"] ++ (v1 31 211 421 71 2 ["a", "b"] ++ (v1 32 218 429 73 2 ["a", "b"] ++ (v1 33 225 437 75 2 ["a", "b"] ++ (v1 34 232 445 77 2 ["a", "b"] ++ (v1 35 239 453 79 2 ["a", "b"] ++ (v1 36 246 461 81 2 ["a", "b"]))))))))
def b3 (r : List Obj) : List Obj := b2 (c2 ++ r)
def g3_0 : List DictEntry := ers P [("quotient", 404, 196), ("remainder", 412, 203), ("divide", 420, 210), ("divide_signed", 428, 217), ("remainder_signed", 436, 224), ("divide_32", 444, 231), ("divide_signed_32", 452, 238), ("remainder_32", 460, 245), ("remainder_signed_32", 468, 252)]
def e3 (r : List DictEntry) : List DictEntry := e2 P (g3_0 P ++ r)
def f3 (r : List Value) : List Value := f2 (fz [(60, 195), (67, 202), (69, 209), (71, 216), (73, 223), (75, 230), (77, 237), (79, 244), (81, 251)] r)
def t3 : BT := mT 11 (hd P 44 ((e3 P []).set 0 (es P "__name__" 165 (zs "smallcore.arithmetic" 234))) (f3 []) (b3 []))
def c3 : List Obj := [oD 28 [er P "add" 469 56, er P "sub" 471 63, er P "and" 473 70, er P "or" 475 77, er P "xor" 477 84, er P "sll" 479 91, er P "srl" 481 98, er P "sra" 483 105, er P "slt" 485 119, er P "sltu" 487 112, er P "addw" 489 126, er P "subw" 491 133, er P "sllw" 493 140, er P "srlw" 495 147, er P "sraw" 497 154, er P "mul" 499 161, er P "mulh" 501 175, er P "mulhsu" 503 182, er P "mulhu" 504 168, er P "div" 505 217, er P "divu" 506 210, er P "rem" 507 224, er P "remu" 508 203, er P "mulw" 509 189, er P "divw" 510 238, er P "divuw" 511 231, er P "remw" 512 252, er P "remuw" 513 245], oD 11 [er P "mulhsu" 503 182, er P "mulhu" 504 168, er P "div" 505 217, er P "divu" 506 210, er P "rem" 507 224, er P "remu" 508 203, er P "mulw" 509 189, er P "divw" 510 238, er P "divuw" 511 231, er P "remw" 512 252, er P "remuw" 513 245]]
def b4 (r : List Obj) : List Obj := b3 (c3 P ++ r)
def g4_0 : List DictEntry := ers P [("RESULTS", 525, 253)]
def e4 (r : List DictEntry) : List DictEntry := e3 P (g4_0 P ++ r)
def f4 (r : List Value) : List Value := f3 (fz [] r)
def t4 : BT := mT 11 (hd P 45 ((e4 P []).set 0 (es P "__name__" 165 (zs "smallcore.arithmetic" 234))) (f4 []) (b4 P []))
def c4 : List Obj := v1 38 255 526 84 3 ["name", "a", "b"] ++ (v1 39 262 535 86 3 ["name", "a", "b"] ++ ([oT [], oF "builtin_function_or_method" [.builtin "type.__prepare__", .type "type"], oD 5 [es P "__module__" 553 (zs "smallcore.instruction" 544), es P "__qualname__" 555 (zs "Instruction" 554), es P "__firstlineno__" 557 (zi 99 556), er P "__init__" 570 282, er P "__static_attributes__" 577 283], oT [], oN [zi 101 0, zi 4 0, zr 281], oF "code" [zs "Instruction" 548, zs "Instruction" 549, zs "/claim/cut.py" 550, zi 99 0, zi 0 0, zi 0 0, zi 0 0, zi 0 0, zr 272, .bool false, zi 181 0, zr 273, .none, .none, .none, .none, zi 551 0, zi 99 0, zs "/claim/cut.py" 552], (PySem.Obj.mk (.type "frame") Option.none PySem.Data.plain #[(some (zr 274)), (some (zr 3)), (some (zr 271)), Option.none, (some (zs "smallcore.instruction" 544)), Option.none, (some (zr 0))])] ++ (d7 "smallcore.instruction" 544 (tc (tp 41) 0) "Instruction.__init__" 276 558 101 7 3 ["self", "form", "name", "target", "first", "second", "immediate"] ++ ([oT [zs "first" 571, zs "form" 572, zs "immediate" 573, zs "name" 574, zs "second" 575, zs "target" 576], oD 4 [es P "__module__" 553 (zs "smallcore.instruction" 544), es P "__firstlineno__" 557 (zi 99 556), er P "__init__" 570 282, er P "__static_attributes__" 577 283, er P "__dict__" 579 286, er P "__weakref__" 581 287, es P "__doc__" 582 (.none)], (PySem.Obj.mk (.type "type") Option.none (PySem.Data.cls (PySem.ClassData.mk (Str.ofString "Instruction") [(.type "object")] [(zr 285), (.type "object")] 284 (Str.ofString "Instruction") Bool.true [] [] Bool.false Option.none Bool.false)) #[Option.none, Option.none, (some (zs "Instruction" 546)), (some (zs "Instruction" 554)), (some (.builtin "object.__new__")), (some (.bool true))])]))))
def c5 : List Obj := [oF "getset_descriptor" [zs "__dict__" 578, zr 285, .builtin "function.__dict__", .builtin "function.__dict__#set"], oF "getset_descriptor" [zs "__weakref__" 580, zr 285, .builtin "ExceptionGroup.__weakref__", .none], oF "super" [zr 285, zr 285, zr 285], oF "builtin_function_or_method" [.builtin "object.__init_subclass__", zr 285]] ++ (v2 42 290 585 108 4 ["name", "target", "first", "second"] ++ (v2 43 297 595 110 4 ["name", "target", "first", "immediate"] ++ (v2 44 304 605 112 2 ["target", "immediate"])))
def b5 (r : List Obj) : List Obj := b4 P (c4 P ++ (c5 ++ r))
def g5_0 : List DictEntry := ers P [("compute", 534, 261), ("branch_holds", 543, 268), ("Instruction", 584, 285), ("of_registers", 594, 296), ("of_immediate", 604, 303), ("of_pc", 612, 310)]
def e5 (r : List DictEntry) : List DictEntry := e4 P (g5_0 P ++ r)
def f5 (r : List Value) : List Value := f4 (fz [(84, 260), (86, 267), (99, 274), (108, 295), (110, 302), (112, 309)] r)
def t5 : BT := mT 11 (hd P 51 ((e5 P []).set 0 (es P "__name__" 165 (zs "smallcore.instruction" 544))) (f5 []) (b5 P []))
def c6 : List Obj := v2 45 311 613 114 4 ["name", "target", "first", "immediate"] ++ (v2 46 318 623 116 4 ["name", "first", "second", "immediate"] ++ (v2 47 325 633 118 4 ["name", "first", "second", "immediate"] ++ (v2 48 332 643 120 2 ["target", "immediate"] ++ (v2 49 339 651 122 3 ["target", "first", "immediate"] ++ (v2 50 346 660 124 0 [] ++ (v2 51 353 666 126 1 ["name"] ++ (v2 52 360 673 128 0 [] ++ ([oI 681 [20, 12, 0], oT [zr 367], oI 685 [7, 5, 0], oI 688 [25, 7, 5], oT [zr 369, zr 370], oI 692 [8, 4, 1], oI 695 [25, 6, 5], oI 698 [7, 1, 11], oI 701 [31, 1, 12], oT [zr 372, zr 373, zr 374, zr 375], oI 705 [12, 20, 12], oT [zr 377], oI 709 [21, 10, 1], oI 712 [20, 1, 11], oI 715 [12, 8, 12], oI 718 [31, 1, 20], oT [zr 379, zr 380, zr 381, zr 382]]))))))))
def b6 (r : List Obj) : List Obj := b5 P (c6 ++ r)
def g6_0 : List DictEntry := ers P [("of_load", 622, 317), ("of_store", 632, 324), ("of_branch", 642, 331), ("of_jump", 650, 338), ("of_jump_to", 659, 345), ("of_nothing", 665, 352), ("of_stop", 672, 359), ("of_reserved", 678, 366), ("PLAIN_PIECES_long_words", 684, 368), ("STORE_PIECES", 691, 371), ("BRANCH_PIECES_long_words", 704, 376), ("UPPER_PIECES_long_words", 708, 378), ("JUMP_PIECES_long_words", 721, 383)]
def e6 (r : List DictEntry) : List DictEntry := e5 P (g6_0 P ++ r)
def f6 (r : List Value) : List Value := f5 (fz [(114, 316), (116, 323), (118, 330), (120, 337), (122, 344), (124, 351), (126, 358), (128, 365)] r)
def t6 : BT := mT 11 (hd P 64 ((e6 P []).set 0 (es P "__name__" 165 (zs "smallcore.long_words" 679))) (f6 []) (b6 P []))
def c7 : List Obj := [oD 7 [ej 0 722 "lb", ej 1 724 "lh", ej 2 726 "lw", ej 3 728 "ld", ej 4 730 "lbu", ej 5 732 "lhu", ej 6 734 "lwu"], oD 4 [ej 0 744 "sb", ej 1 746 "sh", ej 2 748 "sw", ej 3 750 "sd"], oD 6 [ej 0 757 "beq", ej 1 759 "bne", ej 4 761 "blt", ej 5 763 "bge", ej 6 765 "bltu", ej 7 767 "bgeu"], oD 6 [ej 0 776 "add", ej 2 778 "slt", ej 3 780 "sltu", ej 4 782 "xor", ej 6 784 "or", ej 7 786 "and"]]
def b7 (r : List Obj) : List Obj := b6 P (c7 ++ r)
def g7_0 : List DictEntry := ers P [("LOADS", 743, 384), ("STORES", 756, 385), ("BRANCHES", 775, 386), ("IMMEDIATES", 794, 387)]
def e7 (r : List DictEntry) : List DictEntry := e6 P (g7_0 P ++ r)
def f7 (r : List Value) : List Value := f6 (fz [] r)
def t7 : BT := mT 11 (hd P 68 ((e7 P []).set 0 (es P "__name__" 165 (zs "smallcore.long_words" 679))) (f7 []) (b7 P []))
def c8 : List Obj := [oD 3 [ek (-1950498447580522560) 389 "sll" 797, ek (-3119722376306286570) 390 "srl" 800, ek (-6966877936824697099) 391 "sra" 803], oI 795 [0, 1], oI 798 [0, 5], oI 801 [16, 5], oD 3 [ek (-1950498447580522560) 393 "sllw" 816, ek (-3119722376306286570) 394 "srlw" 819, ek (-256138539353821629) 395 "sraw" 822], oI 814 [0, 1], oI 817 [0, 5], oI 820 [32, 5]]
def b8 (r : List Obj) : List Obj := b7 P (c8 ++ r)
def g8_0 : List DictEntry := ers P [("SHIFTS", 813, 388), ("SHIFTS_32", 832, 392)]
def e8 (r : List DictEntry) : List DictEntry := e7 P (g8_0 P ++ r)
def f8 (r : List Value) : List Value := f7 (fz [] r)
def t8 : BT := mT 11 (hd P 70 ((e8 P []).set 0 (es P "__name__" 165 (zs "smallcore.long_words" 679))) (f8 []) (b8 P []))
def c9 : List Obj := [oD 18 [ek (-8458139203682520985) 397 "add" 835, ek (-1950498447580522560) 398 "sll" 841, ek 7204814214171964562 399 "slt" 847, ek (-4734289103435588629) 400 "sltu" 853, ek 1773351652666409796 401 "xor" 859, ek (-3119722376306286570) 402 "srl" 865, ek (-1010439003188656273) 403 "or" 871, ek (-5903513032161352639) 404 "and" 877, ek (-5594555366730056044) 405 "sub" 883, ek (-256138539353821629) 406 "sra" 889, ek (-5164621852614943976) 407 "mul" 895, ek 8389048192121911274 408 "mulh" 901, ek (-3550055125485641917) 409 "mulhsu" 907, ek (-1440771752368011620) 410 "mulhu" 913, ek (-6333845781340707986) 411 "div" 919, ek 173794974761290439 412 "divu" 925, ek (-4719279054211405927) 413 "rem" 931, ek (-2609995681093775630) 415 "remu" 937], oI 833 [0, 0], oI 839 [0, 1], oI 845 [0, 2], oI 851 [0, 3], oI 857 [0, 4], oI 863 [0, 5], oI 869 [0, 6], oI 875 [0, 7], oI 881 [32, 0], oI 887 [32, 5], oI 893 [1, 0], oI 899 [1, 1], oI 905 [1, 2], oI 911 [1, 3], oI 917 [1, 4], oI 923 [1, 5], oI 929 [1, 6], oD 1 [ek (-2609995681093775630) 415 "remu" 937], oI 935 [1, 7]]
def b9 (r : List Obj) : List Obj := b8 P (c9 ++ r)
def g9_0 : List DictEntry := ers P [("REGISTERS_long_words", 941, 396)]
def e9 (r : List DictEntry) : List DictEntry := e8 P (g9_0 P ++ r)
def f9 (r : List Value) : List Value := f8 (fz [] r)
def t9 : BT := mT 11 (hd P 71 ((e9 P []).set 0 (es P "__name__" 165 (zs "smallcore.long_words" 679))) (f9 []) (b9 P []))
def c10 : List Obj := [oD 10 [ek (-8458139203682520985) 417 "addw" 944, ek (-1950498447580522560) 418 "sllw" 947, ek (-3119722376306286570) 419 "srlw" 950, ek (-5594555366730056044) 420 "subw" 953, ek (-256138539353821629) 421 "sraw" 956, ek (-5164621852614943976) 422 "mulw" 959, ek (-6333845781340707986) 423 "divw" 962, ek 173794974761290439 424 "divuw" 965, ek (-4719279054211405927) 425 "remw" 968, ek (-2609995681093775630) 426 "remuw" 971], oI 942 [0, 0], oI 945 [0, 1], oI 948 [0, 5], oI 951 [32, 0], oI 954 [32, 5], oI 957 [1, 0], oI 960 [1, 4], oI 963 [1, 5], oI 966 [1, 6], oI 969 [1, 7], oD 2 [ej 115 1003 "ecall", ej 1048691 1005 "ebreak"]] ++ (v3 68 428 1010 145 1 ["word"])
def b10 (r : List Obj) : List Obj := b9 P (c10 ++ r)
def g10_0 : List DictEntry := ers P [("REGISTERS_32", 1002, 416), ("SYSTEM_STOPS", 1009, 427), ("target_of", 1016, 434)]
def e10 (r : List DictEntry) : List DictEntry := e9 P (g10_0 P ++ r)
def f10 (r : List Value) : List Value := f9 (fz [(145, 433)] r)
def t10 : BT := mT 11 (hd P 74 ((e10 P []).set 0 (es P "__name__" 165 (zs "smallcore.long_words" 679))) (f10 []) (b10 P []))
def c11 : List Obj := v3 69 435 1017 147 1 ["word"] ++ (v3 70 442 1024 149 1 ["word"] ++ (v3 71 449 1031 151 1 ["word"] ++ (v3 72 456 1038 153 1 ["word"] ++ (v3 74 463 1046 156 1 ["word"] ++ (v3 75 470 1053 158 1 ["word"] ++ (v3 77 477 1061 161 1 ["word"] ++ (v3 78 484 1068 163 1 ["word"] ++ (v3 80 491 1076 166 1 ["word"] ++ (v3 81 498 1083 170 1 ["word", "name"] ++ (v3 82 505 1091 175 1 ["word", "name"] ++ (v3 83 512 1099 180 1 ["word", "name"])))))))))))
def b11 (r : List Obj) : List Obj := b10 P (c11 ++ r)
def g11_0 : List DictEntry := ers P [("three_of", 1023, 441), ("first_of", 1030, 448), ("second_of", 1037, 455), ("plain_immediate", 1044, 677), ("plain_immediate_long_words", 1045, 462), ("upper_immediate", 1052, 469), ("read_upper", 1059, 754), ("read_upper_long_words", 1060, 476), ("read_upper_of_pc", 1067, 483), ("read_jump", 1074, 775), ("read_jump_long_words", 1075, 490), ("read_jump_to", 1082, 497), ("read_branch", 1090, 504), ("read_load", 1098, 511), ("read_store", 1106, 518)]
def e11 (r : List DictEntry) : List DictEntry := e10 P (g11_0 P ++ r)
def f11 (r : List Value) : List Value := f10 (fz [(147, 440), (149, 447), (151, 454), (153, 461), (156, 468), (158, 475), (161, 482), (163, 489), (166, 496), (170, 503), (175, 510), (180, 517)] r)
def t11 : BT := mT 11 (hd P 89 (((((e11 P []).set 0 (es P "__name__" 165 (zs "smallcore.long_words" 679))).set 77 (er P "plain_immediate" 1044 462)).set 80 (er P "read_upper" 1059 476)).set 83 (er P "read_jump" 1074 490)) (f11 []) (b11 P []))
def c12 : List Obj := v3 84 519 1107 185 1 ["word", "name"] ++ (v3 85 526 1115 190 1 ["word", "name"] ++ (v3 86 533 1123 195 1 ["word", "name"] ++ (v3 87 540 1131 200 1 ["word"] ++ (v3 88 547 1138 204 1 ["word", "name"] ++ (v3 89 554 1146 209 1 ["word", "name"] ++ (v3 90 561 1154 214 1 ["word"] ++ (v3 91 568 1161 218 1 ["word", "name"])))))))
def b12 (r : List Obj) : List Obj := b11 P (c12 ++ r)
def g12_0 : List DictEntry := ers P [("read_shift", 1114, 525), ("read_shift_32", 1122, 532), ("read_immediate", 1130, 539), ("read_immediate_32", 1137, 546), ("read_registers", 1145, 553), ("read_registers_32", 1153, 560), ("read_fence", 1160, 567), ("read_system", 1168, 574)]
def e12 (r : List DictEntry) : List DictEntry := e11 P (g12_0 P ++ r)
def f12 (r : List Value) : List Value := f11 (fz [(185, 524), (190, 531), (195, 538), (200, 545), (204, 552), (209, 559), (214, 566), (218, 573)] r)
def t12 : BT := mT 11 (hd P 97 (((((e12 P []).set 0 (es P "__name__" 165 (zs "smallcore.long_words" 679))).set 77 (er P "plain_immediate" 1044 462)).set 80 (er P "read_upper" 1059 476)).set 83 (er P "read_jump" 1074 490)) (f12 []) (b12 P []))
def c13 : List Obj := [oD 13 [ei 3 1169 (zr 511), ei 15 1170 (zr 567), ei 19 1171 (zr 539), ei 23 1172 (zr 483), ei 27 1173 (zr 546), ei 35 1174 (zr 518), ei 51 1175 (zr 553), ei 55 1176 (zr 476), ei 59 1177 (zr 560), ei 99 1178 (zr 504), ei 103 1179 (zr 497), ei 111 1180 (zr 490), ei 115 1181 (zr 574)]] ++ (v3 93 576 1196 224 1 ["word", "opcode"] ++ ([oI 1210 [2, 5, 0], oI 1213 [12, 1, 5], oT [zr 583, zr 584], oI 1217 [2, 5, 12], oI 1220 [12, 1, 17], oT [zr 586, zr 587], oI 1224 [5, 1, 3], oI 1227 [6, 1, 2], oI 1230 [7, 4, 6], oI 1233 [11, 2, 4], oT [zr 589, zr 590, zr 591, zr 592], oI 1237 [2, 1, 5], oI 1240 [3, 2, 7], oI 1243 [5, 1, 6], oI 1246 [6, 1, 4], oI 1249 [12, 1, 9], oT [zr 594, zr 595, zr 596, zr 597, zr 598], oI 1253 [5, 1, 6], oI 1256 [6, 1, 2], oI 1259 [10, 3, 3], oT [zr 600, zr 601, zr 602], oI 1263 [5, 2, 6], oI 1266 [10, 3, 3], oT [zr 604, zr 605]]))
def b13 (r : List Obj) : List Obj := b12 P (c13 ++ r)
def g13_0 : List DictEntry := ers P [("READERS_long_words", 1195, 575), ("read_long", 1203, 582)] ++ ([es P "LINK" 1207 (zi 1 1206), es P "STACK_POINTER" 1209 (zi 2 1208)] ++ (ers P [("PLAIN_PIECES_short_words", 1216, 585), ("UPPER_PIECES_short_words", 1223, 588), ("STACK_ADDRESS_PIECES", 1236, 593), ("STACK_MOVE_PIECES", 1252, 599), ("WORD_PIECES", 1262, 603), ("DOUBLE_PIECES", 1269, 606)]))
def e13 (r : List DictEntry) : List DictEntry := e12 P (g13_0 P ++ r)
def f13 (r : List Value) : List Value := f12 (fz [(224, 581)] r)
def t13 : BT := mT 11 (hd P 107 (((((e13 P []).set 0 (es P "__name__" 165 (zs "smallcore.short_words" 1204))).set 77 (er P "plain_immediate" 1044 462)).set 80 (er P "read_upper" 1059 476)).set 83 (er P "read_jump" 1074 490)) (f13 []) (b13 P []))
def c14 : List Obj := [oI 1270 [2, 2, 6], oI 1273 [4, 3, 2], oI 1276 [12, 1, 5], oT [zr 607, zr 608, zr 609], oI 1280 [2, 3, 6], oI 1283 [5, 2, 3], oI 1286 [12, 1, 5], oT [zr 611, zr 612, zr 613], oI 1290 [7, 2, 6], oI 1293 [9, 4, 2], oT [zr 615, zr 616], oI 1297 [7, 3, 6], oI 1300 [10, 3, 3], oT [zr 618, zr 619], oI 1304 [2, 1, 5], oI 1307 [3, 3, 1], oI 1310 [6, 1, 7], oI 1313 [7, 1, 6], oI 1316 [8, 1, 10], oI 1319 [9, 2, 8], oI 1322 [11, 1, 4], oI 1325 [12, 1, 11], oT [zr 621, zr 622, zr 623, zr 624, zr 625, zr 626, zr 627, zr 628], oI 1329 [2, 1, 5], oI 1332 [3, 2, 1], oI 1335 [5, 2, 6], oI 1338 [10, 2, 3], oI 1341 [12, 1, 8], oT [zr 630, zr 631, zr 632, zr 633, zr 634], oD 6 [ek (-8458139203682520985) 637 "sub" 1347, ek (-1950498447580522560) 638 "xor" 1350, ek 7204814214171964562 639 "or" 1353, ek (-4734289103435588629) 640 "and" 1356, ek (-5164621852614943976) 641 "subw" 1359, ek 8389048192121911274 642 "addw" 1362], oI 1345 [0, 0], oI 1348 [0, 1], oI 1351 [0, 2], oI 1354 [0, 3], oI 1357 [1, 0], oI 1360 [1, 1]]
def b14 (r : List Obj) : List Obj := b13 P (c14 ++ r)
def g14_0 : List DictEntry := ers P [("STACK_LOAD_WORD_PIECES", 1279, 610), ("STACK_LOAD_DOUBLE_PIECES", 1289, 614), ("STACK_STORE_WORD_PIECES", 1296, 617), ("STACK_STORE_DOUBLE_PIECES", 1303, 620), ("JUMP_PIECES_short_words", 1328, 629), ("BRANCH_PIECES_short_words", 1344, 635), ("REGISTERS_short_words", 1381, 636)]
def e14 (r : List DictEntry) : List DictEntry := e13 P (g14_0 P ++ r)
def f14 (r : List Value) : List Value := f13 (fz [] r)
def t14 : BT := mT 11 (hd P 114 (((((e14 P []).set 0 (es P "__name__" 165 (zs "smallcore.short_words" 1204))).set 77 (er P "plain_immediate" 1044 462)).set 80 (er P "read_upper" 1059 476)).set 83 (er P "read_jump" 1074 490)) (f14 []) (b14 P []))
def c15 : List Obj := v4 110 643 1382 245 1 ["half"] ++ (v4 111 650 1389 247 1 ["half"] ++ (v4 112 657 1396 249 1 ["half"] ++ (v4 113 664 1403 251 1 ["half"] ++ (v4 114 671 1410 253 1 ["half"] ++ (v4 116 678 1418 256 1 ["half"] ++ (v4 117 685 1425 258 1 ["half", "immediate"] ++ (v4 118 692 1433 263 1 ["half"] ++ (v4 119 699 1440 265 1 ["half"] ++ (v4 120 706 1447 267 1 ["half"] ++ (v4 121 713 1454 269 1 ["half"] ++ (v4 122 720 1461 271 1 ["half"] ++ (v4 123 727 1468 273 1 ["half"]))))))))))))
def b15 (r : List Obj) : List Obj := b14 P (c15 ++ r)
def g15_0 : List DictEntry := ers P [("full_at_7", 1388, 649), ("full_at_2", 1395, 656), ("small_at_7", 1402, 663), ("small_at_2", 1409, 670), ("plain_immediate_short_words", 1417, 677), ("shift_amount", 1424, 684), ("read_stack_address", 1432, 691), ("read_load_word", 1439, 698), ("read_load_double", 1446, 705), ("read_store_word", 1453, 712), ("read_store_double", 1460, 719), ("read_add", 1467, 726), ("read_add_32", 1474, 733)]
def e15 (r : List DictEntry) : List DictEntry := e14 P (g15_0 P ++ r)
def f15 (r : List Value) : List Value := f14 (fz [(245, 648), (247, 655), (249, 662), (251, 669), (253, 676), (256, 683), (258, 690), (263, 697), (265, 704), (267, 711), (269, 718), (271, 725), (273, 732)] r)
def t15 : BT := mT 11 (hd P 127 ((((e15 P []).set 0 (es P "__name__" 165 (zs "smallcore.short_words" 1204))).set 80 (er P "read_upper" 1059 476)).set 83 (er P "read_jump" 1074 490)) (f15 []) (b15 P []))
def c16 : List Obj := v4 124 734 1475 277 1 ["half"] ++ (v4 125 741 1482 279 1 ["half", "immediate"] ++ (v4 126 748 1490 284 1 ["half", "immediate"] ++ (v4 128 755 1499 292 1 ["half", "name"] ++ (v4 129 762 1507 297 1 ["half", "choice", "target"] ++ (v4 130 769 1516 307 1 ["half"] ++ (v4 132 776 1524 310 1 ["half"] ++ (v4 133 783 1531 312 1 ["half"] ++ (v4 134 790 1538 314 1 ["half"] ++ (v4 135 797 1545 316 1 ["half"] ++ (v4 136 804 1552 320 1 ["half"] ++ (v4 137 811 1559 324 1 ["half"])))))))))))
def b16 (r : List Obj) : List Obj := b15 P (c16 ++ r)
def g16_0 : List DictEntry := ers P [("read_load_immediate", 1481, 740), ("read_stack_move", 1489, 747), ("read_upper_short_words", 1498, 754), ("read_small_registers", 1506, 761), ("read_small", 1515, 768), ("read_jump_short_words", 1523, 775), ("read_branch_equal", 1530, 782), ("read_branch_not_equal", 1537, 789), ("read_shift_left", 1544, 796), ("read_stack_load_word", 1551, 803), ("read_stack_load_double", 1558, 810), ("read_stack_store_word", 1565, 817)]
def e16 (r : List DictEntry) : List DictEntry := e15 P (g16_0 P ++ r)
def f16 (r : List Value) : List Value := f15 (fz [(277, 739), (279, 746), (284, 753), (292, 760), (297, 767), (307, 774), (310, 781), (312, 788), (314, 795), (316, 802), (320, 809), (324, 816)] r)
def t16 : BT := mT 11 (hd P 139 ((e16 P []).set 0 (es P "__name__" 165 (zs "smallcore.short_words" 1204))) (f16 []) (b16 P []))
def c17 : List Obj := v4 138 818 1566 326 1 ["half"] ++ (v4 139 825 1573 328 1 ["half"] ++ (v4 140 832 1580 334 1 ["half"] ++ (v4 141 839 1587 340 1 ["half"])))
def b17 (r : List Obj) : List Obj := b16 P (c17 ++ r)
def g17_0 : List DictEntry := ers P [("read_stack_store_double", 1572, 824), ("read_move_or_jump", 1579, 831), ("read_add_or_call", 1586, 838), ("read_full", 1593, 845)]
def e17 (r : List DictEntry) : List DictEntry := e16 P (g17_0 P ++ r)
def f17 (r : List Value) : List Value := f16 (fz [(326, 823), (328, 830), (334, 837), (340, 844)] r)
def t17 : BT := mT 11 (hd P 143 ((e17 P []).set 0 (es P "__name__" 165 (zs "smallcore.short_words" 1204))) (f17 []) (b17 P []))
def c18 : List Obj := [oD 19 [el (-8458139203682520985) 847 691, el 7204814214171964562 848 698, el (-4734289103435588629) 849 705, el (-1010439003188656273) 850 712, el (-5903513032161352639) 851 719, el (-5164621852614943976) 852 726, el 8389048192121911274 853 733, el (-3550055125485641917) 854 740, el (-1440771752368011620) 855 754, el (-6333845781340707986) 856 768, el 173794974761290439 857 775, el (-4719279054211405927) 858 782, el (-2609995681093775630) 859 789, el 4685526799349444076 860 796, el 1901736143494378007 861 803, el 8409376899596376432 862 810, el 3516302870623680066 863 845, el (-6313517073866242828) 865 817, el 7240152970870612422 866 824], oI 1594 [0, 0], oI 1599 [0, 2], oI 1604 [0, 3], oI 1609 [0, 6], oI 1614 [0, 7], oI 1619 [1, 0], oI 1624 [1, 1], oI 1629 [1, 2], oI 1634 [1, 3], oI 1639 [1, 4], oI 1644 [1, 5], oI 1649 [1, 6], oI 1654 [1, 7], oI 1659 [2, 0], oI 1664 [2, 2], oI 1669 [2, 3], oI 1674 [2, 4], oD 2 [el (-6313517073866242828) 865 817, el 7240152970870612422 866 824], oI 1679 [2, 6], oI 1681 [2, 7]]
def b18 (r : List Obj) : List Obj := b17 P (c18 ++ r)
def g18_0 : List DictEntry := ers P [("READERS_short_words", 1689, 846)]
def e18 (r : List DictEntry) : List DictEntry := e17 P (g18_0 P ++ r)
def f18 (r : List Value) : List Value := f17 (fz [] r)
def t18 : BT := mT 11 (hd P 144 ((e18 P []).set 0 (es P "__name__" 165 (zs "smallcore.short_words" 1204))) (f18 []) (b18 P []))
def c19 : List Obj := v4 143 867 1690 345 1 ["half", "place"] ++ ([oD 3 [es P "ecall" 1704 (zi 1 1705), es P "ebreak" 1706 (zi 2 1707), es P "reserved" 1708 (zi 3 1709)], oD 11 [es P "lb" 1714 (zi 1 1715), es P "lh" 1716 (zi 2 1717), es P "lw" 1718 (zi 4 1719), es P "ld" 1720 (zi 8 1721), es P "lbu" 1722 (zi 1 1723), es P "lhu" 1724 (zi 2 1725), es P "lwu" 1726 (zi 4 1727), es P "sb" 1728 (zi 1 1729), es P "sh" 1730 (zi 2 1731), es P "sw" 1732 (zi 4 1733), es P "sd" 1734 (zi 8 1735)], oT [zs "lb" 1748, zs "lh" 1749, zs "lw" 1750]] ++ (v5 151 877 1754 357 3 ["machine", "instruction", "after", "first", "second"] ++ (v5 152 884 1765 363 3 ["machine", "instruction", "after", "first"])))
def b19 (r : List Obj) : List Obj := b18 P (c19 P ++ r)
def g19_0 : List DictEntry := ers P [("read_short", 1697, 873)] ++ ([es P "NOT_STOPPED" 1701 (zi 0 1700), es P "NOT_IN_MEMORY" 1703 (zi 4 1702)] ++ (ers P [("STOPS", 1713, 874), ("SIZES", 1747, 875), ("SIGNED_LOADS", 1751, 876)] ++ ([es P "MOST_KNOWN_WORDS" 1753 (zi 32768 1752)] ++ (ers P [("do_registers", 1764, 883), ("do_immediate", 1774, 890)]))))
def e19 (r : List DictEntry) : List DictEntry := e18 P (g19_0 P ++ r)
def f19 (r : List Value) : List Value := f18 (fz [(345, 872), (357, 882), (363, 889)] r)
def t19 : BT := mT 11 (hd P 153 ((e19 P []).set 0 (es P "__name__" 165 (zs "smallcore.execute" 1698))) (f19 []) (b19 P []))
def c20 : List Obj := v5 153 891 1775 368 3 ["machine", "instruction", "after"] ++ (v5 154 898 1784 372 2 ["machine", "instruction"] ++ (v5 155 905 1792 374 3 ["machine", "instruction", "after", "address", "size", "number"] ++ (v5 156 912 1804 385 3 ["machine", "instruction", "after", "address", "size"] ++ (v5 157 919 1815 393 3 ["machine", "instruction", "after", "first", "second"] ++ (v5 158 926 1826 401 3 ["machine", "instruction", "after"] ++ (v5 159 933 1835 405 3 ["machine", "instruction", "after", "place"] ++ (v5 160 940 1845 410 3 ["machine", "instruction", "after"] ++ (v5 161 947 1854 413 3 ["machine", "instruction", "after"]))))))))
def b20 (r : List Obj) : List Obj := b19 P (c20 ++ r)
def g20_0 : List DictEntry := ers P [("do_pc", 1783, 897), ("address_of", 1791, 904), ("do_load", 1803, 911), ("do_store", 1814, 918), ("do_branch", 1825, 925), ("do_jump", 1834, 932), ("do_jump_to", 1844, 939), ("do_nothing", 1853, 946), ("do_stop", 1862, 953)]
def e20 (r : List DictEntry) : List DictEntry := e19 P (g20_0 P ++ r)
def f20 (r : List Value) : List Value := f19 (fz [(368, 896), (372, 903), (374, 910), (385, 917), (393, 924), (401, 931), (405, 938), (410, 945), (413, 952)] r)
def t20 : BT := mT 11 (hd P 162 ((e20 P []).set 0 (es P "__name__" 165 (zs "smallcore.execute" 1698))) (f20 []) (b20 P []))
def c21 : List Obj := [oD 10 [er P "registers" 1863 883, er P "immediate" 1864 890, er P "pc" 1865 897, er P "load" 1866 911, er P "store" 1867 918, er P "branch" 1868 925, er P "jump" 1869 932, er P "jump to" 1870 939, er P "nothing" 1871 946, er P "stop" 1872 953]] ++ (v5 163 955 1884 416 1 ["word"] ++ (v5 164 962 1891 418 1 ["machine", "memory", "pc", "half"] ++ (v5 165 969 1901 429 1 ["word"] ++ (v5 166 976 1908 433 2 ["machine", "word", "known_words"] ++ (v5 167 983 1917 440 1 ["machine", "word", "instruction", "after"])))))
def b21 (r : List Obj) : List Obj := b20 P (c21 P ++ r)
def g21_0 : List DictEntry := ers P [("DOERS", 1883, 954), ("length_of", 1890, 961), ("fetch", 1900, 968), ("read_word", 1907, 975), ("instruction_of", 1916, 982), ("do_next", 1926, 989)] ++ ([es P "MEMORY_SIZE" 1930 (zi 65536 1929)])
def e21 (r : List DictEntry) : List DictEntry := e20 P (g21_0 P ++ r)
def f21 (r : List Value) : List Value := f20 (fz [(416, 960), (418, 967), (429, 974), (433, 981), (440, 988)] r)
def t21 : BT := mT 11 (hd P 169 ((e21 P []).set 0 (es P "__name__" 165 (zs "smallcore.memory" 1927))) (f21 []) (b21 P []))
def c22 : List Obj := [oT [], oF "builtin_function_or_method" [.builtin "type.__prepare__", .type "type"], oD 11 [es P "__module__" 1938 (zs "smallcore.memory" 1927), es P "__qualname__" 1940 (zs "Memory" 1939), es P "__firstlineno__" 1942 (zi 449 1941), er P "__init__" 1949 1003, er P "holds" 1958 1010, er P "store_row" 1969 1017, er P "load_row" 1978 1024, er P "store_number" 1984 1029, er P "load_half" 1992 1036, er P "load_number" 2003 1043, er P "__static_attributes__" 2005 1044], oT [], oN [zi 451 0, zi 4 0, zr 1002, zi 454 0, zi 4 0, zr 1009, zi 457 0, zi 4 0, zr 1016, zi 461 0, zi 4 0, zr 1023, zi 464 0, zi 4 0, zr 1028, zi 467 0, zi 4 0, zr 1035, zi 470 0, zi 4 0, zr 1042], oF "code" [zs "Memory" 1933, zs "Memory" 1934, zs "/claim/cut.py" 1935, zi 449 0, zi 0 0, zi 0 0, zi 0 0, zi 0 0, zr 993, .bool false, zi 181 0, zr 994, .none, .none, .none, .none, zi 1936 0, zi 449 0, zs "/claim/cut.py" 1937], (PySem.Obj.mk (.type "frame") Option.none PySem.Data.plain #[(some (zr 995)), (some (zr 3)), (some (zr 992)), Option.none, (some (zs "smallcore.memory" 1927)), Option.none, (some (zr 0))])] ++ (d7 "smallcore.memory" 1927 (tc (tp 170) 0) "Memory.__init__" 997 1943 451 1 3 ["self"] ++ (d7 "smallcore.memory" 1927 (tc (tp 170) 1) "Memory.holds" 1004 1950 454 3 3 ["self", "place", "n"] ++ (d7 "smallcore.memory" 1927 (tc (tp 170) 2) "Memory.store_row" 1011 1959 457 3 3 ["self", "place", "row", "offset", "number"] ++ (d7 "smallcore.memory" 1927 (tc (tp 170) 3) "Memory.load_row" 1018 1970 461 3 3 ["self", "place", "n"] ++ ([oT [], oN [], fT (tc (tp 170) 4) "Memory.store_number", oF "code" [zs "store_number" 1979, zs "Memory.store_number" 1980, zs "/claim/cut.py" 1981, zi 464 0, zi 4 0, zi 0 0, zi 0 0, zi 3 0, zr 1025, .bool true, zi 181 0, zr 1026, .none, .none, .none, zr 1027, zi 1982 0, zi 464 0, zs "/claim/cut.py" 1983], fG (tc (tp 170) 4) "Memory.store_number" "smallcore.memory" 1927 1028])))))
def c23 : List Obj := d7 "smallcore.memory" 1927 (tc (tp 170) 5) "Memory.load_half" 1030 1985 467 2 3 ["self", "place"] ++ (d7 "smallcore.memory" 1927 (tc (tp 170) 6) "Memory.load_number" 1037 1993 470 3 3 ["self", "place", "n", "number", "offset"] ++ ([oT [zs "cells" 2004], oD 4 [es P "__module__" 1938 (zs "smallcore.memory" 1927), es P "__firstlineno__" 1942 (zi 449 1941), er P "__init__" 1949 1003, er P "holds" 1958 1010, er P "store_row" 1969 1017, er P "load_row" 1978 1024, er P "store_number" 1984 1029, er P "load_half" 1992 1036, er P "load_number" 2003 1043, er P "__static_attributes__" 2005 1044, er P "__dict__" 2007 1047, er P "__weakref__" 2009 1048, es P "__doc__" 2010 (.none)], (PySem.Obj.mk (.type "type") Option.none (PySem.Data.cls (PySem.ClassData.mk (Str.ofString "Memory") [(.type "object")] [(zr 1046), (.type "object")] 1045 (Str.ofString "Memory") Bool.true [] [] Bool.false Option.none Bool.false)) #[Option.none, Option.none, (some (zs "Memory" 1931)), (some (zs "Memory" 1939)), (some (.builtin "object.__new__")), (some (.bool true))]), oF "getset_descriptor" [zs "__dict__" 2006, zr 1046, .builtin "function.__dict__", .builtin "function.__dict__#set"], oF "getset_descriptor" [zs "__weakref__" 2008, zr 1046, .builtin "ExceptionGroup.__weakref__", .none]]))
def c24 : List Obj := [oF "super" [zr 1046, zr 1046, zr 1046], oF "builtin_function_or_method" [.builtin "object.__init_subclass__", zr 1046]]
def b22 (r : List Obj) : List Obj := b21 P (c22 P ++ (c23 P ++ (c24 ++ r)))
def g22_0 : List DictEntry := ers P [("Memory", 2012, 1046)]
def e22 (r : List DictEntry) : List DictEntry := e21 P (g22_0 P ++ r)
def f22 (r : List Value) : List Value := f21 (fz [(449, 995)] r)
def t22 : BT := mT 11 (hd P 170 ((e22 P []).set 0 (es P "__name__" 165 (zs "smallcore.memory" 1927))) (f22 []) (b22 P []))
def b23 (r : List Obj) : List Obj := b22 P r
def g23_0 : List DictEntry := [es P "REGISTER_COUNT" 2016 (zi 32 2015), es P "PC_NUMBER" 2018 (zi 32 2017), es P "MOST_STEPS" 2020 (zi 1099511627776 2019), es P "DONE" 2022 (zi 0 2021), es P "REFUSED" 2025 (zi (-1) 2024)]
def e23 (r : List DictEntry) : List DictEntry := e22 P (g23_0 P ++ r)
def f23 (r : List Value) : List Value := f22 (fz [] r)
def t23 : BT := mT 11 (hd P 175 ((e23 P []).set 0 (es P "__name__" 165 (zs "smallcore.machine" 2013))) (f23 []) (b23 P []))
def c25 : List Obj := [oT [], oF "builtin_function_or_method" [.builtin "type.__prepare__", .type "type"], oD 13 [es P "__module__" 2033 (zs "smallcore.machine" 2013), es P "__qualname__" 2035 (zs "Machine" 2034), es P "__firstlineno__" 2037 (zi 481 2036), er P "__init__" 2044 1064, er P "put" 2053 1071, er P "take" 2062 1078, er P "set_value" 2071 1085, er P "set_pc" 2079 1092, er P "write_register" 2088 1099, er P "get_value" 2096 1106, er P "run" 2105 1113, er P "why" 2112 1120, er P "__static_attributes__" 2118 1121], oT [], oN [zi 483 0, zi 4 0, zr 1063, zi 490 0, zi 4 0, zr 1070, zi 496 0, zi 4 0, zr 1077, zi 501 0, zi 4 0, zr 1084, zi 509 0, zi 4 0, zr 1091, zi 515 0, zi 4 0, zr 1098, zi 519 0, zi 4 0, zr 1105, zi 526 0, zi 4 0, zr 1112, zi 537 0, zi 4 0, zr 1119], oF "code" [zs "Machine" 2028, zs "Machine" 2029, zs "/claim/cut.py" 2030, zi 481 0, zi 0 0, zi 0 0, zi 0 0, zi 0 0, zr 1054, .bool false, zi 181 0, zr 1055, .none, .none, .none, .none, zi 2031 0, zi 481 0, zs "/claim/cut.py" 2032], (PySem.Obj.mk (.type "frame") Option.none PySem.Data.plain #[(some (zr 1056)), (some (zr 3)), (some (zr 1053)), Option.none, (some (zs "smallcore.machine" 2013)), Option.none, (some (zr 0))])] ++ (d7 "smallcore.machine" 2013 (tc (tp 177) 0) "Machine.__init__" 1058 2038 483 1 3 ["self"] ++ (d7 "smallcore.machine" 2013 (tc (tp 177) 1) "Machine.put" 1065 2045 490 3 3 ["self", "place", "row"] ++ (d7 "smallcore.machine" 2013 (tc (tp 177) 2) "Machine.take" 1072 2054 496 3 3 ["self", "place", "n"])))
def c26 : List Obj := d7 "smallcore.machine" 2013 (tc (tp 177) 3) "Machine.set_value" 1079 2063 501 3 3 ["self", "which", "value"] ++ (d7 "smallcore.machine" 2013 (tc (tp 177) 4) "Machine.set_pc" 1086 2072 509 2 3 ["self", "value"] ++ (d7 "smallcore.machine" 2013 (tc (tp 177) 5) "Machine.write_register" 1093 2080 515 3 3 ["self", "which", "value"] ++ (d7 "smallcore.machine" 2013 (tc (tp 177) 6) "Machine.get_value" 1100 2089 519 2 3 ["self", "which"] ++ (d7 "smallcore.machine" 2013 (tc (tp 177) 7) "Machine.run" 1107 2097 526 2 3 ["self", "steps", "done"] ++ (d7 "smallcore.machine" 2013 (tc (tp 177) 8) "Machine.why" 1114 2106 537 1 3 ["self"] ++ ([oT [zs "known_words" 2113, zs "memory" 2114, zs "pc" 2115, zs "reason" 2116, zs "registers" 2117]]))))))
def c27 : List Obj := [oD 4 [es P "__module__" 2033 (zs "smallcore.machine" 2013), es P "__firstlineno__" 2037 (zi 481 2036), er P "__init__" 2044 1064, er P "put" 2053 1071, er P "take" 2062 1078, er P "set_value" 2071 1085, er P "set_pc" 2079 1092, er P "write_register" 2088 1099, er P "get_value" 2096 1106, er P "run" 2105 1113, er P "why" 2112 1120, er P "__static_attributes__" 2118 1121, er P "__dict__" 2120 1124, er P "__weakref__" 2122 1125, es P "__doc__" 2123 (.none)], (PySem.Obj.mk (.type "type") Option.none (PySem.Data.cls (PySem.ClassData.mk (Str.ofString "Machine") [(.type "object")] [(zr 1123), (.type "object")] 1122 (Str.ofString "Machine") Bool.true [] [] Bool.false Option.none Bool.false)) #[Option.none, Option.none, (some (zs "Machine" 2026)), (some (zs "Machine" 2034)), (some (.builtin "object.__new__")), (some (.bool true))]), oF "getset_descriptor" [zs "__dict__" 2119, zr 1123, .builtin "function.__dict__", .builtin "function.__dict__#set"], oF "getset_descriptor" [zs "__weakref__" 2121, zr 1123, .builtin "ExceptionGroup.__weakref__", .none], oF "super" [zr 1123, zr 1123, zr 1123], oF "builtin_function_or_method" [.builtin "object.__init_subclass__", zr 1123]]
def b24 (r : List Obj) : List Obj := b23 P (c25 P ++ (c26 ++ (c27 P ++ r)))
def g24_0 : List DictEntry := ers P [("Machine", 2125, 1123)]
def e24 (r : List DictEntry) : List DictEntry := e23 P (g24_0 P ++ r)
def f24 (r : List Value) : List Value := f23 (fz [(481, 1056)] r)
def t24 : BT := mT 11 (hd P 176 ((e24 P []).set 0 (es P "__name__" 165 (zs "smallcore.machine" 2013))) (f24 []) (b24 P []))
def c28 : List Obj := [oT [], oF "builtin_function_or_method" [.builtin "type.__prepare__", .type "type"], oD 8 [es P "__module__" 2135 (zs "smallcore.reader" 2126), es P "__qualname__" 2137 (zs "Reader" 2136), es P "__firstlineno__" 2139 (zi 540 2138), er P "__init__" 2147 1141, er P "has_more" 2154 1148, er P "read_number" 2162 1155, er P "read_row" 2171 1162, er P "__static_attributes__" 2174 1163], oT [], oN [zi 542 0, zi 4 0, zr 1140, zi 546 0, zi 4 0, zr 1147, zi 549 0, zi 4 0, zr 1154, zi 554 0, zi 4 0, zr 1161], oF "code" [zs "Reader" 2130, zs "Reader" 2131, zs "/claim/cut.py" 2132, zi 540 0, zi 0 0, zi 0 0, zi 0 0, zi 0 0, zr 1131, .bool false, zi 181 0, zr 1132, .none, .none, .none, .none, zi 2133 0, zi 540 0, zs "/claim/cut.py" 2134], (PySem.Obj.mk (.type "frame") Option.none PySem.Data.plain #[(some (zr 1133)), (some (zr 3)), (some (zr 1130)), Option.none, (some (zs "smallcore.reader" 2126)), Option.none, (some (zr 0))])] ++ (d7 "smallcore.reader" 2126 (tc (tp 179) 0) "Reader.__init__" 1135 2140 542 2 3 ["self", "numbers"] ++ (d7 "smallcore.reader" 2126 (tc (tp 179) 1) "Reader.has_more" 1142 2148 546 1 3 ["self"] ++ (d7 "smallcore.reader" 2126 (tc (tp 179) 2) "Reader.read_number" 1149 2155 549 1 3 ["self", "number"] ++ (d7 "smallcore.reader" 2126 (tc (tp 179) 3) "Reader.read_row" 1156 2163 554 1 3 ["self", "length", "row"] ++ ([oT [zs "at" 2172, zs "numbers" 2173], oD 4 [es P "__module__" 2135 (zs "smallcore.reader" 2126), es P "__firstlineno__" 2139 (zi 540 2138), er P "__init__" 2147 1141, er P "has_more" 2154 1148, er P "read_number" 2162 1155, er P "read_row" 2171 1162, er P "__static_attributes__" 2174 1163, er P "__dict__" 2176 1166, er P "__weakref__" 2178 1167, es P "__doc__" 2179 (.none)]])))))
def c29 : List Obj := [(PySem.Obj.mk (.type "type") Option.none (PySem.Data.cls (PySem.ClassData.mk (Str.ofString "Reader") [(.type "object")] [(zr 1165), (.type "object")] 1164 (Str.ofString "Reader") Bool.true [] [] Bool.false Option.none Bool.false)) #[Option.none, Option.none, (some (zs "Reader" 2128)), (some (zs "Reader" 2136)), (some (.builtin "object.__new__")), (some (.bool true))]), oF "getset_descriptor" [zs "__dict__" 2175, zr 1165, .builtin "function.__dict__", .builtin "function.__dict__#set"], oF "getset_descriptor" [zs "__weakref__" 2177, zr 1165, .builtin "ExceptionGroup.__weakref__", .none], oF "super" [zr 1165, zr 1165, zr 1165], oF "builtin_function_or_method" [.builtin "object.__init_subclass__", zr 1165]]
def b25 (r : List Obj) : List Obj := b24 P (c28 P ++ (c29 ++ r))
def g25_0 : List DictEntry := ers P [("Reader", 2181, 1165)] ++ ([es P "PUT" 2185 (zi 1 2184), es P "TAKE" 2187 (zi 2 2186), es P "SET" 2189 (zi 3 2188), es P "GET" 2191 (zi 4 2190), es P "RUN" 2193 (zi 5 2192), es P "WHY" 2195 (zi 6 2194)])
def e25 (r : List DictEntry) : List DictEntry := e24 P (g25_0 P ++ r)
def f25 (r : List Value) : List Value := f24 (fz [(540, 1133)] r)
def t25 : BT := mT 11 (hd P 183 (e25 P []) (f25 []) (b25 P []))
def c30 : List Obj := [oT [.type "ValueError"], oF "builtin_function_or_method" [.builtin "type.__prepare__", .type "type"], oD 4 [es P "__module__" 2203 (zs "smallcore.desk" 2182), es P "__qualname__" 2205 (zs "UnknownCall" 2204), es P "__firstlineno__" 2207 (zi 567 2206), er P "__static_attributes__" 2208 1177], oT [], oN [], oF "code" [zs "UnknownCall" 2198, zs "UnknownCall" 2199, zs "/claim/cut.py" 2200, zi 567 0, zi 0 0, zi 0 0, zi 0 0, zi 0 0, zr 1173, .bool false, zi 181 0, zr 1174, .none, .none, .none, .none, zi 2201 0, zi 567 0, zs "/claim/cut.py" 2202], (PySem.Obj.mk (.type "frame") Option.none PySem.Data.plain #[(some (zr 1175)), (some (zr 3)), (some (zr 1172)), Option.none, (some (zs "smallcore.desk" 2182)), Option.none, (some (zr 0))]), oT [], oD 3 [es P "__module__" 2203 (zs "smallcore.desk" 2182), es P "__firstlineno__" 2207 (zi 567 2206), er P "__static_attributes__" 2208 1177, er P "__weakref__" 2210 1180, es P "__doc__" 2211 (.none)], (PySem.Obj.mk (.type "type") Option.none (PySem.Data.cls (PySem.ClassData.mk (Str.ofString "UnknownCall") [(.type "ValueError")] [(zr 1179), (.type "ValueError"), (.type "Exception"), (.type "BaseException"), (.type "object")] 1178 (Str.ofString "UnknownCall") Bool.true [] [] Bool.false Option.none Bool.false)) #[(some (zr 1170)), Option.none, (some (zs "UnknownCall" 2196)), (some (zs "UnknownCall" 2204)), (some (.builtin "ValueError.__new__")), (some (.bool true))]), oF "getset_descriptor" [zs "__weakref__" 2209, zr 1179, .builtin "ExceptionGroup.__weakref__", .none], oF "super" [zr 1179, zr 1179, zr 1179], oF "builtin_function_or_method" [.builtin "object.__init_subclass__", zr 1179]] ++ (v6 188 1183 2214 569 2 ["machine", "reader", "place", "row"] ++ (v6 189 1190 2224 573 2 ["machine", "reader", "place", "n"] ++ (v6 190 1197 2234 577 2 ["machine", "reader", "which", "value"] ++ (v6 191 1204 2244 581 2 ["machine", "reader", "which"]))))
def c31 : List Obj := v6 192 1211 2253 584 2 ["machine", "reader", "steps"] ++ (v6 193 1218 2262 587 2 ["machine", "reader", "call"])
def b26 (r : List Obj) : List Obj := b25 P (c30 P ++ (c31 ++ r))
def g26_0 : List DictEntry := ers P [("UnknownCall", 2213, 1179), ("answer_put", 2223, 1189), ("answer_take", 2233, 1196), ("answer_set", 2243, 1203), ("answer_get", 2252, 1210), ("answer_run", 2261, 1217), ("answer_call", 2270, 1224)]
def e26 (r : List DictEntry) : List DictEntry := e25 P (g26_0 P ++ r)
def f26 (r : List Value) : List Value := f25 (fz [(567, 1175), (569, 1188), (573, 1195), (577, 1202), (581, 1209), (584, 1216), (587, 1223)] r)
def t26 : BT := mT 11 (hd P 190 (e26 P []) (f26 []) (b26 P []))
def c32 : List Obj := v6 194 1225 2271 602 1 ["calls", "machine", "reader", "answered", "answer"]
def b27 (r : List Obj) : List Obj := b26 P (c32 ++ r)
def g27_0 : List DictEntry := ers P [("answers", 2281, 1231)]
def e27 (r : List DictEntry) : List DictEntry := e26 P (g27_0 P ++ r)
def f27 (r : List Value) : List Value := f26 (fz [(602, 1230)] r)
def hl : List Obj := hd P 191 (e27 P []) (f27 []) (b27 P [])
def t27 : BT := mT 11 (hl P)
def en : Env := { scope := PySem.Challenge.pw_smallcore_s01_answers.main.scope, locals := mainNs, globals := mainNs, cells := [], code := .ref 13, frame := some 14 }
def st0 : List Stmt := ((behindTheImports PySem.Challenge.pw_smallcore_s01_answers).drop 0).take 15
def st1 : List Stmt := ((behindTheImports PySem.Challenge.pw_smallcore_s01_answers).drop 15).take 13
def st2 : List Stmt := ((behindTheImports PySem.Challenge.pw_smallcore_s01_answers).drop 28).take 9
def st3 : List Stmt := ((behindTheImports PySem.Challenge.pw_smallcore_s01_answers).drop 37).take 1
def st4 : List Stmt := ((behindTheImports PySem.Challenge.pw_smallcore_s01_answers).drop 38).take 7
def st5 : List Stmt := ((behindTheImports PySem.Challenge.pw_smallcore_s01_answers).drop 45).take 14
def st6 : List Stmt := ((behindTheImports PySem.Challenge.pw_smallcore_s01_answers).drop 59).take 4
def st7 : List Stmt := ((behindTheImports PySem.Challenge.pw_smallcore_s01_answers).drop 63).take 2
def st8 : List Stmt := ((behindTheImports PySem.Challenge.pw_smallcore_s01_answers).drop 65).take 1
def st9 : List Stmt := ((behindTheImports PySem.Challenge.pw_smallcore_s01_answers).drop 66).take 3
def st10 : List Stmt := ((behindTheImports PySem.Challenge.pw_smallcore_s01_answers).drop 69).take 15
def st11 : List Stmt := ((behindTheImports PySem.Challenge.pw_smallcore_s01_answers).drop 84).take 8
def st12 : List Stmt := ((behindTheImports PySem.Challenge.pw_smallcore_s01_answers).drop 92).take 11
def st13 : List Stmt := ((behindTheImports PySem.Challenge.pw_smallcore_s01_answers).drop 103).take 7
def st14 : List Stmt := ((behindTheImports PySem.Challenge.pw_smallcore_s01_answers).drop 110).take 14
def st15 : List Stmt := ((behindTheImports PySem.Challenge.pw_smallcore_s01_answers).drop 124).take 14
def st16 : List Stmt := ((behindTheImports PySem.Challenge.pw_smallcore_s01_answers).drop 138).take 4
def st17 : List Stmt := ((behindTheImports PySem.Challenge.pw_smallcore_s01_answers).drop 142).take 1
def st18 : List Stmt := ((behindTheImports PySem.Challenge.pw_smallcore_s01_answers).drop 143).take 10
def st19 : List Stmt := ((behindTheImports PySem.Challenge.pw_smallcore_s01_answers).drop 153).take 9
def st20 : List Stmt := ((behindTheImports PySem.Challenge.pw_smallcore_s01_answers).drop 162).take 8
def st21 : List Stmt := ((behindTheImports PySem.Challenge.pw_smallcore_s01_answers).drop 170).take 1
def st22 : List Stmt := ((behindTheImports PySem.Challenge.pw_smallcore_s01_answers).drop 171).take 6
def st23 : List Stmt := ((behindTheImports PySem.Challenge.pw_smallcore_s01_answers).drop 177).take 1
def st24 : List Stmt := ((behindTheImports PySem.Challenge.pw_smallcore_s01_answers).drop 178).take 9
def st25 : List Stmt := ((behindTheImports PySem.Challenge.pw_smallcore_s01_answers).drop 187).take 7
def st26 : List Stmt := ((behindTheImports PySem.Challenge.pw_smallcore_s01_answers).drop 194).take 1
end
end Z8
end
section
namespace Z8
open PySem PySem.W PyProof.Rows
abbrev q0 : Pos := ⟨0, 0, 0, 0⟩
def PQ (T T' : Params → BT) (l : List Stmt) (N n t n' t' : Nat) (p1 p2 : Pos) (w : World) : Prop :=
  (fun (p : Program) (b : List Stmt) (os : OsState) => Fast.tw10110043849684766642 Fast.tw14364793385576792824 p w 11 (some (.ref 6)) 1 N ⟨T w.params, n, {}, Array.mk [], {}, t, os⟩ (piecesOf l en (.body b en) p1 [topFrame q0])) =
    fun p b os => some (.next, ⟨T' w.params, n', {}, Array.mk [], {}, t', os⟩, .body b en, p2)
theorem PQ.at {T T' : Params → BT} {l : List Stmt} {N n t n' t' : Nat} {p1 p2 : Pos} {w : World} (h : PQ T T' l N n t n' t' p1 p2 w) (p : Program) (b : List Stmt) (os : OsState) :
    segRun treeTable p w 11 (some (.ref 6)) 1 N (SharedT.abs ⟨T w.params, n, {}, Array.mk [], {}, t, os⟩) (piecesOf l en (.body b en) p1 [topFrame q0]) = some (.next, SharedT.abs ⟨T' w.params, n', {}, Array.mk [], {}, t', os⟩, .body b en, p2) := by
  have a1 := @Fast.te10110043849684766642
  have a2 := @Fast.te14364793385576792824
  unfold PQ at h
  rw [← a1, ← a2] at h
  exact segRun_of (congrFun (congrFun (congrFun h p) b) os)
theorem pq0 (w : World) : PQ t0 t1 st0 391 15 187 99 292 ⟨0, 0, 0, 0⟩ ⟨32, 0, 33, 30⟩ w := by unfold PQ; kernel_rfl
theorem pq1 (w : World) : PQ t1 t2 st1 391 99 292 190 396 ⟨32, 0, 33, 30⟩ ⟨58, 0, 59, 28⟩ w := by unfold PQ; kernel_rfl
theorem pq2 (w : World) : PQ t2 t3 st2 272 190 396 253 469 ⟨58, 0, 59, 28⟩ ⟨81, 0, 82, 62⟩ w := by unfold PQ; kernel_rfl
theorem pq3 (w : World) : PQ t3 t4 st3 532 253 469 255 526 ⟨81, 0, 82, 62⟩ ⟨83, 0, 83, 7⟩ w := byRow2 "special-get-raises" (fun w => by unfold PQ; kernel_rfl) (fun w => by unfold PQ; kernel_rfl) w
theorem pq4 (w : World) : PQ t4 t5 st4 398 255 526 311 613 ⟨83, 0, 83, 7⟩ ⟨112, 0, 113, 62⟩ w := by unfold PQ; kernel_rfl
theorem pq5 (w : World) : PQ t5 t6 st5 362 311 613 384 722 ⟨112, 0, 113, 62⟩ ⟨135, 0, 135, 22⟩ w := by unfold PQ; kernel_rfl
theorem pq6 (w : World) : PQ t6 t7 st6 340 384 722 388 795 ⟨135, 0, 135, 22⟩ ⟨139, 0, 139, 10⟩ w := byRow2 "special-get-raises" (fun w => by unfold PQ; kernel_rfl) (fun w => by unfold PQ; kernel_rfl) w
theorem pq7 (w : World) : PQ t7 t8 st7 213 388 795 396 833 ⟨139, 0, 139, 10⟩ ⟨141, 0, 141, 9⟩ w := byRow2 "special-get-raises" (fun w => by unfold PQ; kernel_rfl) (fun w => by unfold PQ; kernel_rfl) w
theorem pq8 (w : World) : PQ t8 t9 st8 600 396 833 416 942 ⟨141, 0, 141, 9⟩ ⟨142, 0, 142, 20⟩ w := byRow2 "special-get-raises" (fun w => by unfold PQ; kernel_rfl) (fun w => by unfold PQ; kernel_rfl) w
theorem pq9 (w : World) : PQ t9 t10 st9 396 416 942 435 1017 ⟨142, 0, 142, 20⟩ ⟨145, 0, 146, 28⟩ w := byRow2 "special-get-raises" (fun w => by unfold PQ; kernel_rfl) (fun w => by unfold PQ; kernel_rfl) w
theorem pq10 (w : World) : PQ t10 t11 st10 382 435 1017 519 1107 ⟨145, 0, 146, 28⟩ ⟨180, 0, 184, 98⟩ w := by unfold PQ; kernel_rfl
theorem pq11 (w : World) : PQ t11 t12 st11 239 519 1107 575 1169 ⟨180, 0, 184, 98⟩ ⟨218, 0, 222, 24⟩ w := by unfold PQ; kernel_rfl
theorem pq12 (w : World) : PQ t12 t13 st12 400 575 1169 607 1270 ⟨218, 0, 222, 24⟩ ⟨237, 0, 237, 13⟩ w := byRow2 "special-get-raises" (fun w => by unfold PQ; kernel_rfl) (fun w => by unfold PQ; kernel_rfl) w
theorem pq13 (w : World) : PQ t13 t14 st13 378 607 1270 643 1382 ⟨237, 0, 237, 13⟩ ⟨244, 0, 244, 21⟩ w := byRow2 "special-get-raises" (fun w => by unfold PQ; kernel_rfl) (fun w => by unfold PQ; kernel_rfl) w
theorem pq14 (w : World) : PQ t14 t15 st14 389 643 1382 734 1475 ⟨244, 0, 244, 21⟩ ⟨273, 0, 276, 100⟩ w := by unfold PQ; kernel_rfl
theorem pq15 (w : World) : PQ t15 t16 st15 374 734 1475 818 1566 ⟨273, 0, 276, 100⟩ ⟨324, 0, 325, 96⟩ w := by unfold PQ; kernel_rfl
theorem pq16 (w : World) : PQ t16 t17 st16 117 818 1566 846 1594 ⟨324, 0, 325, 96⟩ ⟨340, 0, 343, 33⟩ w := by unfold PQ; kernel_rfl
theorem pq17 (w : World) : PQ t17 t18 st17 657 846 1594 867 1690 ⟨340, 0, 343, 33⟩ ⟨344, 0, 344, 19⟩ w := byRow2 "special-get-raises" (fun w => by unfold PQ; kernel_rfl) (fun w => by unfold PQ; kernel_rfl) w
theorem pq18 (w : World) : PQ t18 t19 st18 375 867 1690 891 1775 ⟨344, 0, 344, 19⟩ ⟨363, 0, 367, 22⟩ w := byRow2 "special-get-raises" (fun w => by unfold PQ; kernel_rfl) (fun w => by unfold PQ; kernel_rfl) w
theorem pq19 (w : World) : PQ t19 t20 st19 287 891 1775 954 1863 ⟨363, 0, 367, 22⟩ ⟨413, 0, 414, 34⟩ w := by unfold PQ; kernel_rfl
theorem pq20 (w : World) : PQ t20 t21 st20 342 954 1863 990 1931 ⟨413, 0, 414, 34⟩ ⟨448, 0, 448, 11⟩ w := byRow2 "special-get-raises" (fun w => by unfold PQ; kernel_rfl) (fun w => by unfold PQ; kernel_rfl) w
theorem pq21 (w : World) : PQ t21 t22 st21 418 990 1931 1051 2013 ⟨448, 0, 448, 11⟩ ⟨449, 0, 474, 21⟩ w := by unfold PQ; kernel_rfl
theorem pq22 (w : World) : PQ t22 t23 st22 60 1051 2013 1051 2026 ⟨449, 0, 474, 21⟩ ⟨480, 0, 480, 7⟩ w := by unfold PQ; kernel_rfl
theorem pq23 (w : World) : PQ t23 t24 st23 486 1051 2026 1128 2126 ⟨480, 0, 480, 7⟩ ⟨481, 0, 538, 28⟩ w := by unfold PQ; kernel_rfl
theorem pq24 (w : World) : PQ t24 t25 st24 392 1128 2126 1170 2196 ⟨481, 0, 538, 28⟩ ⟨566, 0, 566, 3⟩ w := by unfold PQ; kernel_rfl
theorem pq25 (w : World) : PQ t25 t26 st25 376 1170 2196 1225 2271 ⟨566, 0, 566, 3⟩ ⟨587, 0, 601, 55⟩ w := by unfold PQ; kernel_rfl
theorem pq26 (w : World) : PQ t26 t27 st26 34 1225 2271 1232 2282 ⟨587, 0, 601, 55⟩ ⟨602, 0, 610, 19⟩ w := by unfold PQ; kernel_rfl
end Z8
end
section
namespace Sp8
open PySem PySem.Spec PyProof.Rows PySem.W
noncomputable abbrev q0 : Pos := ⟨0, 0, 0, 0⟩
noncomputable abbrev bE : List Stmt := behindTheImports pw
noncomputable abbrev cE : Code := .body bE Z8.en
noncomputable abbrev SbT (w : World) (os : OsState) : SharedT := { tree := Z8.t0 w.params, n := 15, life := {}, gens := Array.mk [], drawn := {}, toks := 187, os := os }
noncomputable abbrev SkT (w : World) (os : OsState) : SharedT := { tree := Z8.t27 w.params, n := 1232, life := {}, gens := Array.mk [], drawn := {}, toks := 2282, os := os }
noncomputable def H1 : Params → Heap := fun P => absHeap (Z8.t27 P) 1232 {}
theorem h_fin (w : World) (os : OsState) : topRun treeTable pw w 11 (some (.ref 6)) 2 (SkT w os).abs (restOf [] Z8.en cE ⟨602, 0, 610, 19⟩ [topFrame q0]) = some (SkT w os).abs := by kernel_rfl
theorem h_pre (w : World) (os : OsState) : topGo treeTable pw w 11 (some (.ref 6)) 12 ⟨boot_heap w.params, Array.mk [], boot_drawn, boot_toks, os⟩ (topStub pw) = some ((SbT w os).abs, ⟨denote treeTable cE, cE, q0, [topFrame q0]⟩) := by kernel_rfl
theorem h_block (w : World) (os : OsState) : segRun treeTable pw w 11 (some (.ref 6)) 1 1 (SbT w os).abs (blockOf bE Z8.en cE q0 [topFrame q0]) = some (.next, (SbT w os).abs, cE, q0) := by kernel_rfl
theorem h_body : bE = Z8.st0 ++ (Z8.st1 ++ (Z8.st2 ++ (Z8.st3 ++ (Z8.st4 ++ (Z8.st5 ++ (Z8.st6 ++ (Z8.st7 ++ (Z8.st8 ++ (Z8.st9 ++ (Z8.st10 ++ (Z8.st11 ++ (Z8.st12 ++ (Z8.st13 ++ (Z8.st14 ++ (Z8.st15 ++ (Z8.st16 ++ (Z8.st17 ++ (Z8.st18 ++ (Z8.st19 ++ (Z8.st20 ++ (Z8.st21 ++ (Z8.st22 ++ (Z8.st23 ++ (Z8.st24 ++ (Z8.st25 ++ (Z8.st26 ++ [])))))))))))))))))))))))))) := by kernel_rfl
theorem h_chain (w : World) (os : OsState) : topRun treeTable pw w 11 (some (.ref 6)) 9603 (SbT w os).abs (restOf bE Z8.en cE q0 [topFrame q0]) = some (SkT w os).abs := by
  have k := h_fin w os
  have k := piece_app ((Z8.pq26 w).at pw bE os) k
  have k := piece_app ((Z8.pq25 w).at pw bE os) k
  have k := piece_app ((Z8.pq24 w).at pw bE os) k
  have k := piece_app ((Z8.pq23 w).at pw bE os) k
  have k := piece_app ((Z8.pq22 w).at pw bE os) k
  have k := piece_app ((Z8.pq21 w).at pw bE os) k
  have k := piece_app ((Z8.pq20 w).at pw bE os) k
  have k := piece_app ((Z8.pq19 w).at pw bE os) k
  have k := piece_app ((Z8.pq18 w).at pw bE os) k
  have k := piece_app ((Z8.pq17 w).at pw bE os) k
  have k := piece_app ((Z8.pq16 w).at pw bE os) k
  have k := piece_app ((Z8.pq15 w).at pw bE os) k
  have k := piece_app ((Z8.pq14 w).at pw bE os) k
  have k := piece_app ((Z8.pq13 w).at pw bE os) k
  have k := piece_app ((Z8.pq12 w).at pw bE os) k
  have k := piece_app ((Z8.pq11 w).at pw bE os) k
  have k := piece_app ((Z8.pq10 w).at pw bE os) k
  have k := piece_app ((Z8.pq9 w).at pw bE os) k
  have k := piece_app ((Z8.pq8 w).at pw bE os) k
  have k := piece_app ((Z8.pq7 w).at pw bE os) k
  have k := piece_app ((Z8.pq6 w).at pw bE os) k
  have k := piece_app ((Z8.pq5 w).at pw bE os) k
  have k := piece_app ((Z8.pq4 w).at pw bE os) k
  have k := piece_app ((Z8.pq3 w).at pw bE os) k
  have k := piece_app ((Z8.pq2 w).at pw bE os) k
  have k := piece_app ((Z8.pq1 w).at pw bE os) k
  have k := piece_app ((Z8.pq0 w).at pw bE os) k
  rw [← h_body] at k
  exact k
theorem h_run (w : World) (os : OsState) : topRun treeTable pw w 11 (some (.ref 6)) (12 + (1 + 9603)) ⟨boot_heap w.params, Array.mk [], boot_drawn, boot_toks, os⟩ (topStub pw) = some ⟨H1 w.params, Array.mk [], {}, 2282, os⟩ :=
  go_top (h_pre w os) (piece_block (h_block w os) (h_chain w os))
theorem h_open : ∀ w : World, (fencedOpening treeTable pw w 40000).map (fun s => (s.heap, s.gens, s.drawn, s.toks)) = some (boot_heap w.params, Array.mk [], boot_drawn, boot_toks) := boot_open (by kernel_rfl) (by decide) (fun s => by kernel_rfl)
theorem h_size : ∀ w : World, ((boot_heap w.params).isNs mainGlobals && (Array.mk [] : Array GenState).size == 0, (boot_heap w.params).objs.size, (boot_heap w.params).nsMap mainGlobals "__annotations__") = (true, 11, some (.ref 6)) := fun w => by kernel_rfl
end Sp8
end
section
namespace Sp8
open PySem PySem.Spec PyProof.Rows PySem.W
noncomputable def sAns : Stmt := match (pw.main.body.drop 194) with | x :: _ => x | [] => .Pass q0
noncomputable def dAns : DefRec := match sAns with | .FunctionDef n a b _ _ _ sc _ _ p => ⟨n, a, b, sc, p⟩ | _ => ⟨"", ⟨[], [], none, [], [], none, []⟩, [], pw.main.scope, q0⟩
noncomputable def qv : Program := { pw with main := { pw.main with body := [dAns.stmt] } }
theorem l_stmt : sAns = dAns.stmt := by kernel_rfl
theorem l_recs : recsOf qv = [dAns] := by kernel_rfl
theorem l_def : defOf qv rw8.name = some (dAns, []) := by kernel_rfl
theorem l_thedef : rw8.prog.theDef rw8.name = some (dAns.params, dAns.body, dAns.scope) := by kernel_rfl
theorem l_kw : kwWritten? dAns.params.kwonlyargs dAns.params.kw_defaults = some [] := by kernel_rfl
theorem l_chains : chainsOk qv = true := by kernel_rfl
theorem l_name : dAns.name = "answers" := by kernel_rfl
end Sp8
end
section
namespace Sp8
open PySem PySem.Spec PyProof.Rows PySem.W
noncomputable def lo : List Str := [Str.ofString "MASK_64", Str.ofString "wrap", Str.ofString "field", Str.ofString "signed", Str.ofString "extend", Str.ofString "gather", Str.ofString "add", Str.ofString "subtract", Str.ofString "bit_and", Str.ofString "bit_or", Str.ofString "bit_xor", Str.ofString "shift_left", Str.ofString "shift_right", Str.ofString "shift_right_signed", Str.ofString "is_less", Str.ofString "is_less_signed", Str.ofString "add_32", Str.ofString "subtract_32", Str.ofString "shift_left_32", Str.ofString "shift_right_32", Str.ofString "shift_right_signed_32", Str.ofString "multiply", Str.ofString "multiply_high", Str.ofString "multiply_high_signed", Str.ofString "multiply_high_mixed", Str.ofString "multiply_32", Str.ofString "quotient", Str.ofString "remainder", Str.ofString "divide", Str.ofString "divide_signed", Str.ofString "remainder_signed", Str.ofString "divide_32", Str.ofString "divide_signed_32", Str.ofString "remainder_32", Str.ofString "remainder_signed_32", Str.ofString "RESULTS", Str.ofString "compute", Str.ofString "branch_holds", Str.ofString "Instruction", Str.ofString "of_registers", Str.ofString "of_immediate", Str.ofString "of_pc", Str.ofString "of_load", Str.ofString "of_store", Str.ofString "of_branch", Str.ofString "of_jump", Str.ofString "of_jump_to", Str.ofString "of_nothing", Str.ofString "of_stop", Str.ofString "of_reserved", Str.ofString "PLAIN_PIECES_long_words", Str.ofString "STORE_PIECES", Str.ofString "BRANCH_PIECES_long_words", Str.ofString "UPPER_PIECES_long_words", Str.ofString "JUMP_PIECES_long_words", Str.ofString "LOADS", Str.ofString "STORES", Str.ofString "BRANCHES", Str.ofString "IMMEDIATES", Str.ofString "SHIFTS", Str.ofString "SHIFTS_32", Str.ofString "REGISTERS_long_words", Str.ofString "REGISTERS_32", Str.ofString "SYSTEM_STOPS", Str.ofString "target_of", Str.ofString "three_of", Str.ofString "first_of", Str.ofString "second_of", Str.ofString "plain_immediate", Str.ofString "plain_immediate_long_words", Str.ofString "upper_immediate", Str.ofString "read_upper", Str.ofString "read_upper_long_words", Str.ofString "read_upper_of_pc", Str.ofString "read_jump", Str.ofString "read_jump_long_words", Str.ofString "read_jump_to", Str.ofString "read_branch", Str.ofString "read_load", Str.ofString "read_store", Str.ofString "read_shift", Str.ofString "read_shift_32", Str.ofString "read_immediate", Str.ofString "read_immediate_32", Str.ofString "read_registers", Str.ofString "read_registers_32", Str.ofString "read_fence", Str.ofString "read_system", Str.ofString "READERS_long_words", Str.ofString "read_long", Str.ofString "LINK", Str.ofString "STACK_POINTER", Str.ofString "PLAIN_PIECES_short_words", Str.ofString "UPPER_PIECES_short_words", Str.ofString "STACK_ADDRESS_PIECES", Str.ofString "STACK_MOVE_PIECES", Str.ofString "WORD_PIECES", Str.ofString "DOUBLE_PIECES", Str.ofString "STACK_LOAD_WORD_PIECES", Str.ofString "STACK_LOAD_DOUBLE_PIECES", Str.ofString "STACK_STORE_WORD_PIECES", Str.ofString "STACK_STORE_DOUBLE_PIECES", Str.ofString "JUMP_PIECES_short_words", Str.ofString "BRANCH_PIECES_short_words", Str.ofString "REGISTERS_short_words", Str.ofString "full_at_7", Str.ofString "full_at_2", Str.ofString "small_at_7", Str.ofString "small_at_2", Str.ofString "plain_immediate_short_words", Str.ofString "shift_amount", Str.ofString "read_stack_address", Str.ofString "read_load_word", Str.ofString "read_load_double", Str.ofString "read_store_word", Str.ofString "read_store_double", Str.ofString "read_add", Str.ofString "read_add_32", Str.ofString "read_load_immediate", Str.ofString "read_stack_move", Str.ofString "read_upper_short_words", Str.ofString "read_small_registers", Str.ofString "read_small", Str.ofString "read_jump_short_words", Str.ofString "read_branch_equal", Str.ofString "read_branch_not_equal", Str.ofString "read_shift_left", Str.ofString "read_stack_load_word", Str.ofString "read_stack_load_double", Str.ofString "read_stack_store_word", Str.ofString "read_stack_store_double", Str.ofString "read_move_or_jump", Str.ofString "read_add_or_call", Str.ofString "read_full", Str.ofString "READERS_short_words", Str.ofString "read_short", Str.ofString "NOT_STOPPED", Str.ofString "NOT_IN_MEMORY", Str.ofString "STOPS", Str.ofString "SIZES", Str.ofString "SIGNED_LOADS", Str.ofString "MOST_KNOWN_WORDS", Str.ofString "do_registers", Str.ofString "do_immediate", Str.ofString "do_pc", Str.ofString "address_of", Str.ofString "do_load", Str.ofString "do_store", Str.ofString "do_branch", Str.ofString "do_jump", Str.ofString "do_jump_to", Str.ofString "do_nothing", Str.ofString "do_stop", Str.ofString "DOERS", Str.ofString "length_of", Str.ofString "fetch", Str.ofString "read_word", Str.ofString "instruction_of", Str.ofString "do_next", Str.ofString "MEMORY_SIZE", Str.ofString "Memory", Str.ofString "REGISTER_COUNT", Str.ofString "PC_NUMBER", Str.ofString "MOST_STEPS", Str.ofString "DONE", Str.ofString "REFUSED", Str.ofString "Machine", Str.ofString "Reader", Str.ofString "PUT", Str.ofString "TAKE", Str.ofString "SET", Str.ofString "GET", Str.ofString "RUN", Str.ofString "WHY", Str.ofString "UnknownCall", Str.ofString "answer_put", Str.ofString "answer_take", Str.ofString "answer_set", Str.ofString "answer_get", Str.ofString "answer_run", Str.ofString "answer_call"]
noncomputable abbrev Xt0 : Shared → Bool := fun s => xlAt qv [] s && recOk [] s
noncomputable abbrev mods0 : List Str := importedModules rw8.prog.main.body
theorem lk_a (w : World) (os : OsState) : staticsOk (importedModules pw.main.body) (boot_heap w.params) (H1 w.params) = true := by kernel_rfl
theorem lk_b (w : World) (os : OsState) : namesBound pw (H1 w.params) = true := by kernel_rfl
theorem lk_c (w : World) (os : OsState) : gensDone ⟨H1 w.params, Array.mk [], {}, 2282, os⟩ = true := by kernel_rfl
theorem lk_d (w : World) (os : OsState) : laidKept (boot_heap w.params) (H1 w.params) = true := by kernel_rfl
theorem lk_1 (w : World) (os : OsState) : seen ((recsOf qv).map (·.name)) (ownsOf qv) [] { (⟨H1 w.params, Array.mk [], {}, 2282, os⟩ : Shared) with gens := #[] } = expectedOf qv := by kernel_rfl
theorem lk_2 (w : World) (os : OsState) : (H1 w.params).bltView = bltViewBooted := by kernel_rfl
theorem lk_3 (w : World) (os : OsState) : ((H1 w.params).keysOk (looseW qv lo) ((recsOf qv).map (·.name)) ((litsOf qv).map (·.1)) ((clssOf qv (looseW qv lo)).map (·.name))) = true := by kernel_rfl
theorem lk_4 (w : World) (os : OsState) : (H1 w.params).accountedOkI (importedModules pw.main.body) = true := by kernel_rfl
theorem lk_5 (w : World) (os : OsState) : ((H1 w.params).isNs mainGlobals && (H1 w.params).isNs builtinsNs && tablesOk qv (H1 w.params)) = true := by kernel_rfl
theorem lk_6 (w : World) (os : OsState) : Xt0 ⟨H1 w.params, Array.mk [], {}, 2282, os⟩ = true := by kernel_rfl
theorem lk_7 (w : World) (os : OsState) : tabsOk qv ⟨H1 w.params, Array.mk [], {}, 2282, os⟩ = true := by kernel_rfl
theorem lk_8 (w : World) (os : OsState) : pinSeenD qv (drecsOf qv) ⟨H1 w.params, Array.mk [], {}, 2282, os⟩ = pinGoodD (drecsOf qv) := by kernel_rfl
theorem lk_9 (w : World) (os : OsState) : plainSeenE qv (looseW qv lo) ⟨H1 w.params, Array.mk [], {}, 2282, os⟩ = plainGoodE qv (looseW qv lo) := by kernel_rfl
theorem lk_10 (w : World) (os : OsState) : plainSeenD qv lo ⟨H1 w.params, Array.mk [], {}, 2282, os⟩ = plainGoodD qv lo := by kernel_rfl
theorem lk_11 (w : World) (os : OsState) : wideSeen qv ⟨H1 w.params, Array.mk [], {}, 2282, os⟩ = wideGood qv := by kernel_rfl
theorem lk_12 (w : World) (os : OsState) : clsSeenW qv lo ⟨H1 w.params, Array.mk [], {}, 2282, os⟩ = clsGoodW qv lo := by kernel_rfl
end Sp8
end
section
namespace Sp8
open PySem PySem.Spec PyProof.Rows PySem.W
noncomputable def zz (l : List Addr) : List Obj → PySem.W.Frag := List.rec (fun _ => []) (fun a _ ih r => List.rec [] (fun x r _ => (a, x) :: ih r) r) l
noncomputable def kAs : List Addr := [0, 1, 2, 3, 4, 5, 6, 7, 8, 9, 10, 11, 12, 13, 14, 15, 16, 17, 18, 19, 20, 21, 22, 23, 24, 25, 26, 27, 28, 29, 30, 31, 32, 33, 34, 35, 36, 37, 38, 39, 40, 41, 42, 43, 44, 45, 46, 47, 48, 49, 50, 51, 52, 53, 54, 55, 56, 57, 58, 59, 60, 61, 62, 63, 64, 65, 66, 67, 68, 69, 70, 71, 72, 73, 74, 75, 76, 77, 78, 79, 80, 81, 82, 83, 84, 85, 86, 87, 88, 89, 90, 91, 92, 93, 94, 95, 96, 97, 98, 99, 100, 101, 102, 103, 104, 105, 106, 107, 108, 109, 110, 111, 112, 113, 114, 115, 116, 117, 118, 119, 120, 121, 122, 123, 124, 125, 126, 127, 128, 129, 130, 131, 132, 133, 134, 135, 136, 137, 138, 139, 140, 141, 142, 143, 144, 145, 146, 147, 148, 149, 150, 151, 152, 153, 154, 155, 156, 157, 158, 159, 160, 161, 162, 163, 164, 165, 166, 167, 168, 169, 170, 171, 172, 173, 174, 175, 176, 177, 178, 179, 180, 181, 182, 183, 184, 185, 186, 187, 188, 189, 190, 191, 192, 193, 194, 195, 196, 197, 198, 199, 200, 201, 202, 203, 204, 205, 206, 207, 208, 209, 210, 211, 212, 213, 214, 215, 216, 217, 218, 219, 220, 221, 222, 223, 224, 225, 226, 227, 228, 229, 230, 231, 232, 233, 234, 235, 236, 237, 238, 239, 240, 241, 242, 243, 244, 245, 246, 247, 248, 249, 250, 251, 252, 253, 254, 255, 256, 257, 258, 259, 260, 261, 262, 263, 264, 265, 266, 267, 268, 269, 270, 271, 272, 273, 274, 275, 276, 277, 278, 279, 280, 281, 282, 283, 284, 285, 286, 287, 288, 289, 290, 291, 292, 293, 294, 295, 296, 297, 298, 299, 300, 301, 302, 303, 304, 305, 306, 307, 308, 309, 310, 311, 312, 313, 314, 315, 316, 317, 318, 319, 320, 321, 322, 323, 324, 325, 326, 327, 328, 329, 330, 331, 332, 333, 334, 335, 336, 337, 338, 339, 340, 341, 342, 343, 344, 345, 346, 347, 348, 349, 350, 351, 352, 353, 354, 355, 356, 357, 358, 359, 360, 361, 362, 363, 364, 365, 366, 367, 368, 369, 370, 371, 372, 373, 374, 375, 376, 377, 378, 379, 380, 381, 382, 383, 384, 385, 386, 387, 388, 389, 390, 391, 392, 393, 394, 395, 396, 397, 398, 399, 400, 401, 402, 403, 404, 405, 406, 407, 408, 409, 410, 411, 412, 413, 414, 415, 416, 417, 418, 419, 420, 421, 422, 423, 424, 425, 426, 427, 428, 429, 430, 431, 432, 433, 434, 435, 436, 437, 438, 439, 440, 441, 442, 443, 444, 445, 446, 447, 448, 449, 450, 451, 452, 453, 454, 455, 456, 457, 458, 459, 460, 461, 462, 463, 464, 465, 466, 467, 468, 469, 470, 471, 472, 473, 474, 475, 476, 477, 478, 479, 480, 481, 482, 483, 484, 485, 486, 487, 488, 489, 490, 491, 492, 493, 494, 495, 496, 497, 498, 499, 500, 501, 502, 503, 504, 505, 506, 507, 508, 509, 510, 511, 512, 513, 514, 515, 516, 517, 518, 519, 520, 521, 522, 523, 524, 525, 526, 527, 528, 529, 530, 531, 532, 533, 534, 535, 536, 537, 538, 539, 540, 541, 542, 543, 544, 545, 546, 547, 548, 549, 550, 551, 552, 553, 554, 555, 556, 557, 558, 559, 560, 561, 562, 563, 564, 565, 566, 567, 568, 569, 570, 571, 572, 573, 574, 575, 576, 577, 578, 579, 580, 581, 582, 583, 584, 585, 586, 587, 588, 589, 590, 591, 592, 593, 594, 595, 596, 597, 598, 599, 600, 601, 602, 603, 604, 605, 606, 607, 608, 609, 610, 611, 612, 613, 614, 615, 616, 617, 618, 619, 620, 621, 622, 623, 624, 625, 626, 627, 628, 629, 630, 631, 632, 633, 634, 635, 636, 637, 638, 639, 640, 641, 642, 643, 644, 645, 646, 647, 648, 649, 650, 651, 652, 653, 654, 655, 656, 657, 658, 659, 660, 661, 662, 663, 664, 665, 666, 667, 668, 669, 670, 671, 672, 673, 674, 675, 676, 677, 678, 679, 680, 681, 682, 683, 684, 685, 686, 687, 688, 689, 690, 691, 692, 693, 694, 695, 696, 697, 698, 699, 700, 701, 702, 703, 704, 705, 706, 707, 708, 709, 710, 711, 712, 713, 714, 715, 716, 717, 718, 719, 720, 721, 722, 723, 724, 725, 726, 727, 728, 729, 730, 731, 732, 733, 734, 735, 736, 737, 738, 739, 740, 741, 742, 743, 744, 745, 746, 747, 748, 749, 750, 751, 752, 753, 754, 755, 756, 757, 758, 759, 760, 761, 762, 763, 764, 765, 766, 767, 768, 769, 770, 771, 772, 773, 774, 775, 776, 777, 778, 779, 780, 781, 782, 783, 784, 785, 786, 787, 788, 789, 790, 791, 792, 793, 794, 795, 796, 797, 798, 799, 800, 801, 802, 803, 804, 805, 806, 807, 808, 809, 810, 811, 812, 813, 814, 815, 816, 817, 818, 819, 820, 821, 822, 823, 824, 825, 826, 827, 828, 829, 830, 831, 832, 833, 834, 835, 836, 837, 838, 839, 840, 841, 842, 843, 844, 845, 846, 847, 848, 849, 850, 851, 852, 853, 854, 855, 856, 857, 858, 859, 860, 861, 862, 863, 864, 865, 866, 867, 868, 869, 870, 871, 872, 873, 874, 875, 876, 877, 878, 879, 880, 881, 882, 883, 884, 885, 886, 887, 888, 889, 890, 891, 892, 893, 894, 895, 896, 897, 898, 899, 900, 901, 902, 903, 904, 905, 906, 907, 908, 909, 910, 911, 912, 913, 914, 915, 916, 917, 918, 919, 920, 921, 922, 923, 924, 925, 926, 927, 928, 929, 930, 931, 932, 933, 934, 935, 936, 937, 938, 939, 940, 941, 942, 943, 944, 945, 946, 947, 948, 949, 950, 951, 952, 953, 954, 955, 956, 957, 958, 959, 960, 961, 962, 963, 964, 965, 966, 967, 968, 969, 970, 971, 972, 973, 974, 975, 976, 977, 978, 979, 980, 981, 982, 983, 984, 985, 986, 987, 988, 989, 990, 991, 992, 993, 994, 995, 996, 997, 998, 999, 1000, 1001, 1002, 1003, 1004, 1005, 1006, 1007, 1008, 1009, 1010, 1011, 1012, 1013, 1014, 1015, 1016, 1017, 1018, 1019, 1020, 1021, 1022, 1023, 1024, 1025, 1026, 1027, 1028, 1029, 1030, 1031, 1032, 1033, 1034, 1035, 1036, 1037, 1038, 1039, 1040, 1041, 1042, 1043, 1044, 1045, 1046, 1047, 1048, 1049, 1050, 1051, 1052, 1053, 1054, 1055, 1056, 1057, 1058, 1059, 1060, 1061, 1062, 1063, 1064, 1065, 1066, 1067, 1068, 1069, 1070, 1071, 1072, 1073, 1074, 1075, 1076, 1077, 1078, 1079, 1080, 1081, 1082, 1083, 1084, 1085, 1086, 1087, 1088, 1089, 1090, 1091, 1092, 1093, 1094, 1095, 1096, 1097, 1098, 1099, 1100, 1101, 1102, 1103, 1104, 1105, 1106, 1107, 1108, 1109, 1110, 1111, 1112, 1113, 1114, 1115, 1116, 1117, 1118, 1119, 1120, 1121, 1122, 1123, 1124, 1125, 1126, 1127, 1128, 1129, 1130, 1131, 1132, 1133, 1134, 1135, 1136, 1137, 1138, 1139, 1140, 1141, 1142, 1143, 1144, 1145, 1146, 1147, 1148, 1149, 1150, 1151, 1152, 1153, 1154, 1155, 1156, 1157, 1158, 1159, 1160, 1161, 1162, 1163, 1164, 1165, 1166, 1167, 1168, 1169, 1170, 1171, 1172, 1173, 1174, 1175, 1176, 1177, 1178, 1179, 1180, 1181, 1182, 1183, 1184, 1185, 1186, 1187, 1188, 1189, 1190, 1191, 1192, 1193, 1194, 1195, 1196, 1197, 1198, 1199, 1200, 1201, 1202, 1203, 1204, 1205, 1206, 1207, 1208, 1209, 1210, 1211, 1212, 1213, 1214, 1215, 1216, 1217, 1218, 1219, 1220, 1221, 1222, 1223, 1224, 1225, 1226, 1227, 1228, 1229, 1230, 1231]
noncomputable def kK (P : Params) : PySem.W.Frag := zz kAs (Z8.hl P)
theorem kAs_eq (P : Params) : kAs = (kK P).map (·.1) := by kernel_rfl
theorem k_mapGet {t : BT} {n : Nat} {life : Life} : ∀ {l : List Addr} {m : List (Option Obj)}, l.map (fun a => (Nat.blt a n, (t.get a).bind fun o => (alive o).map some)) = m.map (fun x => (true, some x)) → l.map (absHeap t n life).get? = m
  | [], [], _ => rfl
  | [], _ :: _, h => by simp at h
  | _ :: _, [], h => by simp at h
  | a :: l, x :: m, h => by
    rw [List.map_cons, List.map_cons, List.cons.injEq] at h
    obtain ⟨h1, h2⟩ := h
    have b1 : Nat.blt a n = true := congrArg Prod.fst h1
    have b2 : ((t.get a).bind fun o => (alive o).map some) = some x := congrArg Prod.snd h1
    cases g : t.get a with
    | none => rw [g] at b2; cases b2
    | some o =>
      rw [g] at b2
      have b3 : (alive o).map some = some x := b2
      rw [List.map_cons, k_mapGet h2, abs_get (Nat.le_of_ble_eq_true b1) g]
      cases e : alive o with
      | none => rw [e] at b3; cases b3
      | some y => rw [e] at b3; cases b3; rfl
theorem lk_K0 (P : Params) : kAs.map (fun a => (Nat.blt a 1232, ((Z8.t27 P).get a).bind fun o => (alive o).map some)) = ((kK P).map fun p => some p.2).map (fun x => (true, some x)) := by kernel_rfl
theorem lk_K (w : World) (os : OsState) : kAs.map (H1 w.params).get? = (kK w.params).map fun p => some p.2 := k_mapGet (lk_K0 w.params)
end Sp8
end
section
namespace L2
open PySem PySem.Spec PyProof.Rows
abbrev Key := Sum Int Str
def keyIs : Key → Value → Bool
  | .inl k, v => Value.isInt k v
  | .inr x, v => Value.isStrOf x v
def keyH (w : World) : Key → Int
  | .inl k => hashInt k
  | .inr x => hashStr w x
theorem keyIs_shape : ∀ {k : Key} {v : Value}, keyIs k v = true → (∃ i t, k = Sum.inl i ∧ v = Value.int i t) ∨ (∃ x t, k = Sum.inr x ∧ v = Value.str x t)
  | .inl i, v, h => by
    obtain ⟨t, e⟩ := Value.isInt_shape (k := i) (v := v) h
    exact .inl ⟨i, t, rfl, e⟩
  | .inr x, v, h => by
    obtain ⟨t, e⟩ := Value.isStrOf_shape (x := x) (v := v) h
    exact .inr ⟨x, t, rfl, e⟩
theorem keyIs_int (i : Int) (t : Tok) : keyIs (.inl i) (.int i t) = true := by simp [keyIs, Value.isInt]
theorem keyIs_str (x : Str) (t : Tok) : keyIs (.inr x) (.str x t) = true := by simp [keyIs, Value.isStrOf]
theorem key_ll (a b : Int) : decide ((Sum.inl a : Key) = Sum.inl b) = (a == b) := by
  by_cases e : a = b
  · subst e; simp
  · have h : ¬ (Sum.inl a : Key) = Sum.inl b := fun q => e (Sum.inl.inj q)
    rw [decide_eq_false h]
    exact (beq_eq_false_iff_ne.mpr e).symm
theorem key_rr (a b : Str) : decide ((Sum.inr a : Key) = Sum.inr b) = decide (a = b) := by
  by_cases e : a = b
  · subst e; simp
  · have h : ¬ (Sum.inr a : Key) = Sum.inr b := fun q => e (Sum.inr.inj q)
    rw [decide_eq_false h, decide_eq_false e]
theorem key_lr (a : Int) (b : Str) : decide ((Sum.inl a : Key) = Sum.inr b) = false := decide_eq_false (fun q => nomatch q)
theorem key_rl (a : Str) (b : Int) : decide ((Sum.inr a : Key) = Sum.inl b) = false := decide_eq_false (fun q => nomatch q)
def mixKind (prog : Program) (w : World) : PySem.KeyKind prog w Key where
  is := keyIs
  hash := keyH w
  inj := fun v a b ha hb => by
    rcases keyIs_shape ha with ⟨i, t, rfl, rfl⟩ | ⟨x, t, rfl, rfl⟩
    · rcases keyIs_shape hb with ⟨j, u, rfl, e⟩ | ⟨y, u, rfl, e⟩
      · injection e with e1 _; rw [e1]
      · exact nomatch e
    · rcases keyIs_shape hb with ⟨j, u, rfl, e⟩ | ⟨y, u, rfl, e⟩
      · exact nomatch e
      · injection e with e1 _; rw [e1]
  byValue := fun k v h => by
    rcases keyIs_shape h with ⟨i, t, rfl, rfl⟩ | ⟨x, t, rfl, rfl⟩ <;> rfl
  pyHash := fun hv h => by
    rcases keyIs_shape hv with ⟨i, t, rfl, rfl⟩ | ⟨x, t, rfl, rfl⟩
    · exact wpAny_pyHash_int h
    · exact wpAny_pyHash_str h
  eqBool := fun hu hv h => by
    rcases keyIs_shape hu with ⟨i, t, rfl, rfl⟩ | ⟨x, t, rfl, rfl⟩
    · rcases keyIs_shape hv with ⟨j, u, rfl, rfl⟩ | ⟨y, u, rfl, rfl⟩
      · rw [key_ll] at h; exact wpAny_eqBool_int h
      · rw [key_lr] at h; exact SeqAt.EqAt.int_str i t y u _ _ _ _ h
    · rcases keyIs_shape hv with ⟨j, u, rfl, rfl⟩ | ⟨y, u, rfl, rfl⟩
      · rw [key_rl] at h; exact SeqAt.EqAt.str_int x t j u _ _ _ _ h
      · rw [key_rr] at h; exact wpAny_eqBool_str h
  «strs» := fun k x t v h => by
    rcases keyIs_shape h with ⟨i, u, rfl, e⟩ | ⟨y, u, rfl, e⟩
    · exact nomatch e
    · injection e with e1 _
      subst e1
      cases v <;> rfl
theorem mixKind_int (prog : Program) (w : World) (i : Int) (t : Tok) : (mixKind prog w).is (.inl i) (.int i t) = true := keyIs_int i t
theorem mixKind_str (prog : Program) (w : World) (x : Str) (t : Tok) : (mixKind prog w).is (.inr x) (.str x t) = true := keyIs_str x t
end L2
namespace L2
open PySem PySem.Spec PyProof.Rows
inductive V where
  | non | bl (b : Bool) | int (i : Int) | str (x : Str) | byt (b : Array UInt8) | flt (b : UInt64) | ref (a : Addr) | ty (n : String)
  deriving DecidableEq
def RelV : V → Value → Prop
  | .non, u => u = Value.none
  | .bl b, u => u = Value.bool b
  | .int i, u => ∃ t, u = Value.int i t
  | .str x, u => ∃ t, u = Value.str x t
  | .byt b, u => ∃ t, u = Value.bytes b t
  | .flt b, u => ∃ t, u = Value.float b t
  | .ref a, u => u = Value.ref a
  | .ty n, u => u = Value.type n
abbrev Vals : List V → List Value → Prop := Paired RelV
theorem Vals.length {xs : List V} {us : List Value} (r : Vals xs us) : xs.length = us.length := Paired.length r
theorem Vals.get : ∀ {xs : List V} {us : List Value} {i : Nat} {x : V}, Vals xs us → xs[i]? = some x → ∃ u, us[i]? = some u ∧ RelV x u
  | _, _, _, _, .nil, e => by simp at e
  | _, _, 0, _, .cons r _, e => by simp at e; subst e; exact ⟨_, rfl, r⟩
  | _, _, i + 1, x, .cons _ t, e => by
    obtain ⟨u, h1, h2⟩ := Vals.get (i := i) (x := x) t (by simpa using e)
    exact ⟨u, by simpa using h1, h2⟩
theorem Vals.set {x : V} {u : Value} (r : RelV x u) : ∀ {xs : List V} {us : List Value} (i : Nat), Vals xs us → Vals (xs.set i x) (us.set i u)
  | _, _, _, .nil => .nil
  | _, _, 0, .cons _ t => .cons r t
  | _, _, i + 1, .cons q t => .cons q (Vals.set r i t)
theorem Vals.append : ∀ {xs ys : List V} {us ws : List Value}, Vals xs us → Vals ys ws → Vals (xs ++ ys) (us ++ ws)
  | _, _, _, _, .nil, s => s
  | _, _, _, _, .cons r t, s => .cons r (Vals.append t s)
theorem Vals.take : ∀ {xs : List V} {us : List Value} (n : Nat), Vals xs us → Vals (xs.take n) (us.take n)
  | _, _, 0, _ => .nil
  | _, _, _ + 1, .nil => .nil
  | _, _, n + 1, .cons r t => .cons r (Vals.take n t)
theorem Vals.drop : ∀ {xs : List V} {us : List Value} (n : Nat), Vals xs us → Vals (xs.drop n) (us.drop n)
  | _, _, 0, r => r
  | _, _, _ + 1, .nil => .nil
  | _, _, n + 1, .cons _ t => Vals.drop n t
theorem Vals.none_of : ∀ {xs : List V} {us : List Value} {i : Nat}, Vals xs us → xs[i]? = none → us[i]? = none := fun {xs us i} r e => by
  have h1 := r.length
  have h2 : xs.length ≤ i := List.getElem?_eq_none_iff.mp e
  exact List.getElem?_eq_none_iff.mpr (by omega)
def RelO : Option V → Option Value → Prop
  | some v, some u => RelV v u
  | none, none => True
  | _, _ => False
def KV {κ : Type} : List (κ × V) → List (κ × Value) → Prop := Paired fun (p : κ × V) (q : κ × Value) => p.1 = q.1 ∧ RelV p.2 q.2
def kV : Key → V
  | .inl i => .int i
  | .inr x => .str x
inductive HO where
    | lst (xs : List V)
    | tup (xs : List V)
    | dK (kvs : List (Key × V)) | dT (kvs : List (List Key × V))
    | set (S : Int → Bool) (n : Nat)
    | ins (C dx : Addr) (fs : List (Str × V))
    | own (x : Addr)
    | xd (fs : List (Str × V))
    | met (f x : Addr)
    | rng (lo hi : Int)
    | frz (o : Obj) (u : HO)
    | tbl (ps : Array Value)
    | ext (φ : Heap → Prop)
abbrev Hp := Addr → Option HO
def upd (H : Hp) (a : Addr) (o : HO) : Hp := fun b => if b = a then some o else H b
theorem upd_same {H : Hp} {a : Addr} {o : HO} : upd H a o a = some o := by unfold upd; rw [if_pos rfl]
theorem upd_ne {H : Hp} {a b : Addr} {o : HO} (h : b ≠ a) : upd H a o b = H b := by unfold upd; rw [if_neg h]
theorem upd_upd {H : Hp} {a : Addr} {o u : HO} : upd (upd H a o) a u = upd H a u := by
  funext b; unfold upd; split <;> rfl
theorem ne_of {H : Hp} {a b : Addr} {o u : HO} (h : H a = some o) (h' : H b = some u) (d : o ≠ u) : a ≠ b := by
  intro e; subst e; rw [h] at h'; exact d (Option.some.inj h')
theorem ne_of_none {H : Hp} {a b : Addr} {o : HO} (h : H a = some o) (h' : H b = none) : a ≠ b := by
  intro e; subst e; rw [h] at h'; cases h'
section
variable (P : Program) (w : World)
def ObjOk (H : Hp) (h : Heap) (a : Addr) : HO → Prop
  | .lst xs => xs.length ≤ sizeLine ∧ ∃ (its : List Value) (n : Nat), Vals xs its ∧ h.get? a = some { cls := .type "list", data := .seq its.toArray n }
  | .tup xs => xs.length ≤ sizeLine ∧ ∃ its : List Value, Vals xs its ∧ IsTup h a its.toArray
  | .dK kvs => kvs.length ≤ sizeLine ∧ (a == sysModules) = false ∧ ∃ vs, KV kvs vs ∧ h.DictOf (mixKind P w) a vs
  | .dT kvs => kvs.length ≤ sizeLine ∧ (a == sysModules) = false ∧ ∃ xs : List (List Key × Addr × Value),
      Paired (fun (p : List Key × V) (q : List Key × Addr × Value) => p.1 = q.1 ∧ H q.2.1 = some (.tup (p.1.map kV)) ∧ RelV p.2 q.2.2) kvs xs ∧
      ∃ o es ep, h.get? a = some o ∧ o.ExactDict ∧ o.data = .dict es ep ∧ es.toList = xs.map (entryOfKey (tupleKind (mixKind P w))) ∧ (xs.map (·.1)).Nodup
  | .set S n => h.SetOf (intKind P w) a S n
  | .ins C dx fs => H dx = some (.own a) ∧ fs.length ≤ 1000 ∧ dx ≠ a ∧ h.get? a = some (PySem.W.instObj C dx) ∧
      ∃ mA, h.Ns1 dx mA ∧ (∀ f, RelO (fs.lookup f) (mA f)) ∧ PySem.Within mA (fs.map (·.1))
  | .own _ => ∃ o, h.get? a = some o
  | .xd fs => ∃ mA, h.Ns1 a mA ∧ ∀ f, RelO (fs.lookup f) (mA f)
  | .rng lo hi => ∃ t u v, h.get? a = some { cls := .type "range", data := .fields #[.int lo t, .int hi u, .int 1 v] }
  | .frz o u => h.get? a = some o ∧ ObjOk H h a u
  | .tbl ps => h.get? a = some { cls := .none, data := .fields ps }
  | .met f x => h.get? a = some (PySem.W.methodObj (.ref f) (.ref x))
  | .ext φ => φ h ∧ (∃ o, h.get? a = some o) ∧ ∀ h1 h2 : Heap, φ h1 → (∀ o, h1.get? a = some o → h2.get? a = some o) → φ h2
def HOk (H : Hp) (h : Heap) : Prop := ∀ a o, H a = some o → ObjOk P w H h a o
end
section
variable {P : Program} {w : World} {H H' : Hp} {h h' : Heap} {a : Addr} {o : HO}
theorem ObjOk.lt (x : ObjOk P w H h a o) : a < h.objs.size := by
  cases o with
  | lst xs => obtain ⟨_, _, _, _, e⟩ := x; exact Heap.lt_size e
  | tup xs => obtain ⟨_, _, _, p⟩ := x; exact p.lt
  | dK kvs => obtain ⟨_, _, _, _, o, _, _, e, _⟩ := x; exact Heap.lt_size e
  | dT kvs => obtain ⟨_, _, _, _, o, _, _, e, _⟩ := x; exact Heap.lt_size e
  | set S n => obtain ⟨o, _, _, _, e, _⟩ := x; exact Heap.lt_size e
  | ins C dx fs => obtain ⟨_, _, _, e, _⟩ := x; exact Heap.lt_size e
  | own y => obtain ⟨_, e⟩ := x; exact Heap.lt_size e
  | xd fs => obtain ⟨_, ⟨_, _, _, e, _⟩, _⟩ := x; exact Heap.lt_size e
  | rng lo hi => obtain ⟨_, _, _, e⟩ := x; exact Heap.lt_size e
  | frz ob u => obtain ⟨e, _⟩ := x; exact Heap.lt_size e
  | tbl ps => exact Heap.lt_size (show h.get? a = some _ from x)
  | met f y => exact Heap.lt_size (show h.get? a = some _ from x)
  | ext φ => obtain ⟨_, ⟨_, e⟩, _⟩ := x; exact Heap.lt_size e
theorem Paired.mapP {α β : Type} {F G : α → β → Prop} : ∀ {l₁ : List α} {l₂ : List β}, Paired F l₁ l₂ → (∀ a b, F a b → G a b) → Paired G l₁ l₂
  | _, _, .nil, _ => .nil
  | _, _, .cons r t, f => .cons (f _ _ r) (Paired.mapP t f)
theorem ObjOk.stay (x : ObjOk P w H h a o) (k : ∀ b u, (b = a ∨ H b = some (.own a)) → h.get? b = some u → h'.get? b = some u)
    (ho : ∀ b, H b = some (.own a) → H' b = some (.own a)) (ht : ∀ b xs, H b = some (.tup xs) → H' b = some (.tup xs)) : ObjOk P w H' h' a o := by
  induction o with
  | lst xs => obtain ⟨z, its, n, r, e⟩ := x; exact ⟨z, its, n, r, k _ _ (.inl rfl) e⟩
  | tup xs => obtain ⟨z, its, r, ob, e, c⟩ := x; exact ⟨z, its, r, ob, k _ _ (.inl rfl) e, c⟩
  | dK kvs => obtain ⟨z, y, vs, r, ob, es, ep, e, c⟩ := x; exact ⟨z, y, vs, r, ob, es, ep, k _ _ (.inl rfl) e, c⟩
  | dT kvs =>
    obtain ⟨z, y, xs, r, ob, es, ep, e, c⟩ := x
    exact ⟨z, y, xs, Paired.mapP r fun p q z => ⟨z.1, ht _ _ z.2.1, z.2.2⟩, ob, es, ep, k _ _ (.inl rfl) e, c⟩
  | set S n => obtain ⟨ob, es, ep, t, e, c⟩ := x; exact ⟨ob, es, ep, t, k _ _ (.inl rfl) e, c⟩
  | ins C dx fs =>
    obtain ⟨d, z, ne, e, mA, ⟨od, es, ep, e2, c⟩, r⟩ := x
    exact ⟨ho _ d, z, ne, k _ _ (.inl rfl) e, mA, ⟨od, es, ep, k _ _ (.inr d) e2, c⟩, r⟩
  | own y => obtain ⟨ob, e⟩ := x; exact ⟨ob, k _ _ (.inl rfl) e⟩
  | xd fs => obtain ⟨mA, ⟨od, es, ep, e, c⟩, r⟩ := x; exact ⟨mA, ⟨od, es, ep, k _ _ (.inl rfl) e, c⟩, r⟩
  | rng lo hi => obtain ⟨t, u, v, e⟩ := x; exact ⟨t, u, v, k _ _ (.inl rfl) e⟩
  | frz ob u ih => obtain ⟨e, q⟩ := x; exact ⟨k _ _ (.inl rfl) e, ih q⟩
  | tbl ps =>
    have e : h.get? a = some { cls := .none, data := .fields ps } := x
    show h'.get? a = some { cls := .none, data := .fields ps }
    exact k a _ (.inl rfl) e
  | met f y =>
    have e : h.get? a = some (PySem.W.methodObj (.ref f) (.ref y)) := x
    show h'.get? a = some (PySem.W.methodObj (.ref f) (.ref y))
    exact k a _ (.inl rfl) e
  | ext φ => obtain ⟨p, ⟨o, e⟩, st⟩ := x; exact ⟨st _ _ p fun o q => k _ _ (.inl rfl) q, ⟨o, k _ _ (.inl rfl) e⟩, st⟩
theorem HOk.lt (x : HOk P w H h) (e : H a = some o) : a < h.objs.size := (x a o e).lt
theorem HOk.fresh (x : HOk P w H h) (e : h.objs.size ≤ a) : H a = none := by
  cases q : H a with
  | none => rfl
  | some u => exact absurd (Nat.lt_of_lt_of_le (x.lt q) e) (Nat.lt_irrefl _)
theorem HOk.kept (x : HOk P w H h) (k : ∀ b u, h.get? b = some u → h'.get? b = some u) : HOk P w H h' := fun a o e =>
  (x a o e).stay (fun b u _ q => k b u q) (fun _ q => q) fun _ _ q => q
theorem HOk.laid (x : HOk P w H h) (k : ∀ b u, h.get? b = some u → h'.get? b = some u) (hp : h.objs.size ≤ a) (new : ObjOk P w (upd H a o) h' a o) : HOk P w (upd H a o) h' := fun b u e => by
  have hn := x.fresh hp
  by_cases hb : b = a
  · subst hb; rw [upd_same] at e; cases e; exact new
  · rw [upd_ne hb] at e
    exact (x b u e).stay (fun c v _ q => k c v q) (fun c q => by rw [upd_ne (ne_of_none q hn)]; exact q) fun c xs q => by rw [upd_ne (ne_of_none q hn)]; exact q
end
def Rd (H : Hp) (a : Addr) (u : HO) : Prop := H a = some u ∨ ∃ o, H a = some (.frz o u)
theorem Rd.ok {P : Program} {w : World} {H : Hp} {h : Heap} {a : Addr} {u : HO} (r : Rd H a u) (x : HOk P w H h) : ObjOk P w H h a u := by
  rcases r with r | ⟨o, r⟩
  · exact x a u r
  · obtain ⟨_, q⟩ := x a _ r
    exact q
def Mut : Option HO → Prop
  | some (.lst _) => True
  | some (.dK _) => True
  | some (.dT _) => True
  | some (.set _ _) => True
  | some (.ins _ _ _) => True
  | some (.ext _) => True
  | _ => False
section
variable {P : Program} {w : World} {H : Hp} {h h' : Heap} {x e : Addr} {o' : HO}
theorem HOk.write (ok : HOk P w H h) (mu : Mut (H x)) (he : e = x ∨ H e = some (.own x)) (k : ∀ b u, b ≠ e → h.get? b = some u → h'.get? b = some u) (heo : ∃ u, h'.get? e = some u)
    (new : ObjOk P w (upd H x o') h' x o') : HOk P w (upd H x o') h' := fun b u q => by
  have nown : ∀ c y, H c = some (.own y) → c ≠ x := fun c y r z => by subst z; rw [r] at mu; exact mu
  have ntup : ∀ c xs, H c = some (.tup xs) → c ≠ x := fun c xs r z => by subst z; rw [r] at mu; exact mu
  by_cases hb : b = x
  · subst hb; rw [upd_same] at q; cases q; exact new
  · rw [upd_ne hb] at q
    by_cases hbe : b = e
    · have q' : H b = some (.own x) := by
        rcases he with z | z
        · exact absurd (hbe.trans z) hb
        · rw [hbe]; exact z
      rw [q] at q'; cases q'
      obtain ⟨v, hv⟩ := heo
      exact ⟨v, by rw [hbe]; exact hv⟩
    · refine (ok b u q).stay (fun c v hc r => k c v ?_ r) (fun c r => by rw [upd_ne (nown c b r)]; exact r) fun c xs r => by rw [upd_ne (ntup c xs r)]; exact r
      rcases hc with rfl | hc
      · exact hbe
      · rintro rfl
        rcases he with z | z
        · exact nown c b hc z
        · rw [hc] at z; cases z; exact hb rfl
end
structure Un (fs ex : List Addr) (H H' : Hp) (h h' : Heap) : Prop where
  keep : ∀ b o, h.get? b = some o → H b = none → b ∉ fs → b ∉ ex → h'.get? b = some o
  slot : ∀ b o, h.get? b = some o → H b = none → b ∈ fs → b ∉ ex → ∃ sl, h'.get? b = some { o with slots := sl }
  free : ∀ b o, h.get? b = some o → H b = none → b ∉ ex → H' b = none
  there : ∀ b o, h.get? b = some o → b ∉ ex → ∃ o', h'.get? b = some o'
  tups : ∀ b xs, H b = some (.tup xs) → H' b = some (.tup xs)
  frzs : ∀ b o u, H b = some (.frz o u) → H' b = some (.frz o u)
  tbls : ∀ b ps, H b = some (.tbl ps) → ∃ more, H' b = some (.tbl (ps ++ more))
section
variable {fs fs' ex ex' : List Addr} {H H1 H2 : Hp} {h h1 h2 h' : Heap} {a x e : Addr} {o : HO}
theorem Un.any (u : Un fs ex H H1 h h1) {b : Addr} {ob : Obj} (q : h.get? b = some ob) (n : H b = none) (hx : b ∉ ex) : ∃ sl, h1.get? b = some { ob with slots := sl } := by
  by_cases hb : b ∈ fs
  · exact u.slot b ob q n hb hx
  · exact ⟨ob.slots, u.keep b ob q n hb hx⟩
theorem Un.kept (k : ∀ b u, h.get? b = some u → h'.get? b = some u) : Un fs ex H H h h' :=
  ⟨fun b ob q _ _ _ => k b ob q, fun b ob q _ _ _ => ⟨ob.slots, k b ob q⟩, fun _ _ _ n _ => n, fun b ob q _ => ⟨ob, k b ob q⟩, fun _ _ q => q, fun _ _ _ q => q, fun _ ps q => ⟨#[], by rw [q]; simp⟩⟩
theorem Un.refl : Un fs ex H H h h := Un.kept fun _ _ q => q
theorem Un.laid (k : ∀ b u, h.get? b = some u → h'.get? b = some u) (hp : h.objs.size ≤ a) (hn : H a = none) : Un fs ex H (upd H a o) h h' where
  keep := fun b u q _ _ _ => k b u q
  slot := fun b u q _ _ _ => ⟨u.slots, k b u q⟩
  free := fun b u q n _ => by rw [upd_ne (Nat.ne_of_lt (Nat.lt_of_lt_of_le (Heap.lt_size q) hp))]; exact n
  there := fun b u q _ => ⟨u, k b u q⟩
  tups := fun b xs q => by rw [upd_ne (ne_of_none q hn)]; exact q
  frzs := fun b u xs q => by rw [upd_ne (ne_of_none q hn)]; exact q
  tbls := fun b ps q => ⟨#[], by rw [upd_ne (ne_of_none q hn), q]; simp⟩
theorem Un.write (mu : Mut (H x)) (he : e = x ∨ H e = some (.own x)) (k : ∀ b u, b ≠ e → h.get? b = some u → h'.get? b = some u) (heo : ∃ u, h'.get? e = some u) : Un fs ex H (upd H x o) h h' := by
  have hx : ∀ b, H b = none → b ≠ x := fun b n z => by subst z; rw [n] at mu; exact mu
  have hb : ∀ b, H b = none → b ≠ e := fun b n z => by
    subst z
    rcases he with r | r
    · exact hx b n r
    · rw [n] at r; cases r
  have hm : ∀ b u, H b = some u → ¬ Mut (some u) → b ≠ x := fun b u q nm z => by subst z; rw [q] at mu; exact nm mu
  refine ⟨fun b u q n _ _ => k b u (hb b n) q, fun b u q n _ _ => ⟨u.slots, k b u (hb b n) q⟩, fun b u q n _ => by rw [upd_ne (hx b n)]; exact n, fun b u q _ => ?_,
    fun b xs q => by rw [upd_ne (hm b _ q fun z => z)]; exact q, fun b u xs q => by rw [upd_ne (hm b _ q fun z => z)]; exact q, fun b ps q => ⟨#[], by rw [upd_ne (hm b _ q fun z => z), q]; simp⟩⟩
  by_cases hbe : b = e
  · subst hbe; exact heo
  · exact ⟨u, k b u hbe q⟩
end
def trk (h : Heap) (H : Hp) : List Addr := (List.range h.objs.size).filter fun a => (H a).isSome
def hidT (h : Heap) (H : Hp) : Heap := PySem.W.hideAll h (trk h H)
theorem hidT_size (h : Heap) (H : Hp) : (hidT h H).objs.size = h.objs.size := PySem.W.hideAll_size _ _
theorem hidT_get {h : Heap} {H : Hp} {b : Addr} {o : Obj} (e : h.get? b = some o) (n : H b = none) : (hidT h H).get? b = some o :=
  PySem.W.hideAll_get _ e fun hm => by
    have q : (H b).isSome = true := (List.mem_filter.mp hm).2
    rw [n] at q; simp at q
theorem of_hidT {h : Heap} {H : Hp} {b : Addr} {o : Obj} (e : (hidT h H).get? b = some o) : h.get? b = some o ∧ H b = none := by
  have e' : h.get? b = some o := PySem.W.of_hideAll (trk h H) e
  refine ⟨e', ?_⟩
  cases q : H b with
  | none => rfl
  | some x =>
    have hm : b ∈ trk h H := List.mem_filter.mpr ⟨List.mem_range.mpr (Heap.lt_size e'), by simp [q]⟩
    have z : (hidT h H).get? b = none := PySem.W.hideAll_none (trk h H) hm
    rw [z] at e; cases e
def allNews (g h : Heap) (L : Addr) : List (Addr × Obj) := (List.range h.objs.size).filterMap fun a => if a = L ∨ (g.get? a).isSome = true then none else (h.get? a).map fun o => (a, o)
def rest (g h : Heap) (L d : Addr) : List (Addr × Obj) := (allNews g h L).filter fun p => decide (p.1 ≠ d)
end L2
namespace L2
open PySem PySem.Spec PyProof.Rows
structure Mod (K : PySem.W.Frag) (mg : Str → Option Value) (base : Heap) : Prop where
  kin : K.In base
  glob : base.Ns mainGlobals mg
  blt : ∃ mb, base.Ns builtinsNs mb ∧ ∀ x : Str, x ≠ "__name__" → mb x = bootBuiltins x
  nolimit : base.NoLimit
structure Cx where
  prog : Program
  w : World
  K : PySem.W.Frag
  mg : Str → Option Value
  base : Heap
  A : Around
  N : List Str
  s₀ : Shared
  H₀ : Hp
  env : Env
  outer : List Env
  stack : List Env
  ex : List Addr
  fn : Str → Bool
  calm : Bool
  pn : List (Addr × Obj)
  xe : Value → Shared → Prop
def frs (l : List Env) : List Addr := l.filterMap (·.frame)
abbrev Cx.fs (X : Cx) : List Addr := frs X.outer
def Vis (sc : Scope) (x : Str) : Prop := sc.names.lookup x = some .local ∨ sc.names.lookup x = some .cell ∨ sc.names.lookup x = some .free
def Loc (sc : Scope) (x : Str) : Prop := sc.names.lookup x = some .local ∨ sc.names.lookup x = some .cell
def Look (env : Env) (h : Heap) (m : Str → Option Value) (x : Str) (u : Value) : Prop :=
  (env.kindOf x = some .local ∧ m x = some u) ∨ ((env.kindOf x = some .cell ∨ env.kindOf x = some .free) ∧ ∃ c, env.cells.lookup x = some c ∧ h.IsCell c (some u))
structure Cx.Ok (X : Cx) : Prop where
  mod : Mod X.K X.mg X.base
  kind : X.env.scope.kind = .function
  glob : X.env.globals = mainGlobals
  blt : X.env.builtins = builtinsNs
  above : X.s₀.heap.objs.size ≤ X.env.locals
  inj : ∀ x y c, X.env.cells.lookup x = some c → X.env.cells.lookup y = some c → x = y
  has : ∀ x, (X.env.kindOf x = some .cell ∨ X.env.kindOf x = some .free) → ∃ c, X.env.cells.lookup x = some c
  cab : ∀ x c, X.fn x = true → X.env.cells.lookup x = some c → X.s₀.heap.objs.size ≤ c
  hd : X.calm = true → X.A.handled = none
  frames : X.A.frames = some X.stack
  stk : X.stack = X.outer ∨ (X.stack = X.env :: X.outer ∧ X.env.frame = some X.env.locals)
  exf : ∀ b ∈ X.ex, b ≠ X.env.locals ∧ ∀ x c, X.env.cells.lookup x = some c → c ≠ b
  bs : ∀ b o, X.base.get? b = some o → X.s₀.heap.get? b = some o ∧ X.H₀ b = none
  bsz : X.base.objs.size ≤ X.s₀.heap.objs.size
  noex : ∀ b o, X.base.get? b = some o → b ∉ X.ex
  exfs : ∀ b ∈ X.ex, b ∉ X.fs
  funs : X.s₀.heap.FunFrames X.base X.outer
  frf : ∀ b ∈ X.fs, X.H₀ b = none
structure Inv (X : Cx) (pins : List (Addr × Obj)) (σ : List (Option V)) (H : Hp) (s : Shared) : Prop where
  ok : X.Ok
  os : s.os = X.s₀.os
  bare : AllBare s.gens
  base : Un X.fs X.ex X.H₀ H X.s₀.heap s.heap
  loc : ∃ m, s.heap.Ns X.env.locals m ∧ ∀ (i : Nat) (x : Str) (v : V), X.N[i]? = some x → σ[i]? = some (some v) → Vis X.env.scope x → ∃ u, RelV v u ∧ Look X.env s.heap m x u
  cell : ∀ x c, X.env.cells.lookup x = some c → ∃ v, s.heap.IsCell c v
  free : H X.env.locals = none
  freeC : ∀ x c, X.env.cells.lookup x = some c → H c = none
  pin : ∀ p ∈ X.pn ++ pins, s.heap.get? p.1 = some p.2 ∧ H p.1 = none ∧ p.1 ≠ X.env.locals ∧ p.1 ∉ X.fs ∧ ∀ v, p.2.data ≠ .cell v
  hok : HOk X.prog X.w H s.heap
  len : σ.length = X.N.length
section
variable {X : Cx} {pins : List (Addr × Obj)} {σ : List (Option V)} {H H' : Hp} {s : Shared} {h' : Heap}
theorem Cx.Ok.nofr (ok : X.Ok) {b : Addr} {o : Obj} (e : X.base.get? b = some o) : b ∉ X.fs := fun hb => by
  have := (ok.funs.mem hb).1
  rw [e] at this; cases this
theorem Inv.bs (I : Inv X pins σ H s) : ∀ b o, X.base.get? b = some o → s.heap.get? b = some o ∧ H b = none := fun b o e =>
  ⟨I.base.keep b o (I.ok.bs b o e).1 (I.ok.bs b o e).2 (I.ok.nofr e) (I.ok.noex b o e), I.base.free b o (I.ok.bs b o e).1 (I.ok.bs b o e).2 (I.ok.noex b o e)⟩
theorem Inv.bk (I : Inv X pins σ H s) : ∀ b o, X.base.get? b = some o → s.heap.get? b = some o := fun b o e => (I.bs b o e).1
theorem Inv.mod (I : Inv X pins σ H s) : Mod X.K X.mg X.base := I.ok.mod
theorem Inv.kIn (I : Inv X pins σ H s) : X.K.In s.heap := I.ok.mod.kin.keeps I.bk
theorem Inv.nolimit (I : Inv X pins σ H s) : s.heap.NoLimit := I.ok.mod.nolimit.keeps I.bk
theorem Inv.fr (I : Inv X pins σ H s) : ∃ m, Fr X.base X.env.locals s.heap m :=
  let ⟨m, hn, _⟩ := I.loc
  ⟨m, hn, I.bk, Nat.le_trans I.ok.bsz I.ok.above⟩
theorem Inv.lt (I : Inv X pins σ H s) : X.env.locals < s.heap.objs.size := let ⟨_, hn, _⟩ := I.loc; hn.lt
theorem Inv.sz (I : Inv X pins σ H s) : X.s₀.heap.objs.size ≤ s.heap.objs.size := Nat.le_trans I.ok.above (Nat.le_of_lt I.lt)
theorem Inv.nofs (I : Inv X pins σ H s) {a : Addr} (h : s.heap.objs.size ≤ a) : a ∉ X.fs := fun hb => by
  obtain ⟨_, o, ho, _⟩ := I.ok.funs.mem hb
  exact absurd (Nat.lt_of_lt_of_le (Heap.lt_size ho) (Nat.le_trans I.sz h)) (Nat.lt_irrefl _)
theorem Inv.cne (I : Inv X pins σ H s) : ∀ x c, X.env.cells.lookup x = some c → c ≠ X.env.locals := fun x c e z => by
  obtain ⟨v, o, ho, hd⟩ := I.cell x c e
  obtain ⟨m, ⟨o', es, ep, ho', hd', _⟩, _⟩ := I.loc
  rw [z, ho'] at ho; cases ho; rw [hd'] at hd; cases hd
theorem Inv.funs (I : Inv X pins σ H s) : s.heap.FunFrames X.base X.outer := by
  have all : ∀ (l : List Env), (∀ b ∈ frs l, b ∈ X.fs) → X.s₀.heap.FunFrames X.base l → s.heap.FunFrames X.base l := by
    intro l
    induction l with
    | nil => intro _ _; trivial
    | cons env r ih =>
      intro hs hl
      obtain ⟨hk, ⟨L, o, hf, hn, ho, hd⟩, hr⟩ := hl
      have hL : L ∈ X.fs := hs L (by unfold frs; rw [List.filterMap_cons, hf]; exact List.mem_cons_self)
      obtain ⟨sl, e⟩ := I.base.slot L o ho (I.ok.frf L hL) hL fun z => I.ok.exfs L z hL
      exact ⟨hk, ⟨L, _, hf, hn, e, hd⟩, ih (fun b hb => hs b (by unfold frs; rw [List.filterMap_cons, hf]; exact List.mem_cons_of_mem _ hb)) hr⟩
  exact all X.outer (fun _ hb => hb) I.ok.funs
theorem Inv.stack (I : Inv X pins σ H s) : s.heap.FunFrames X.base X.stack := by
  rcases I.ok.stk with e | ⟨e, hf⟩
  · rw [e]; exact I.funs
  · rw [e]
    obtain ⟨m, hn, _⟩ := I.loc
    refine .cons (by rw [I.ok.kind]; decide) hf hn ?_ I.funs
    exact Heap.get?_none_of_le (Nat.le_trans I.ok.bsz I.ok.above)
theorem Inv.stkSub (I : Inv X pins σ H s) : ∀ b ∈ frs X.stack, b ∈ X.env.locals :: X.fs := fun b hb => by
  rcases I.ok.stk with e | ⟨e, hf⟩
  · rw [e] at hb; exact List.mem_cons_of_mem _ hb
  · rw [e] at hb
    unfold frs at hb
    rw [List.filterMap_cons, hf] at hb
    exact hb
theorem Inv.stkFree (I : Inv X pins σ H s) : ∀ b ∈ frs X.stack, H b = none := fun b hb => by
  rcases List.mem_cons.mp (I.stkSub b hb) with e | hb
  · rw [e]; exact I.free
  · obtain ⟨_, o, ho, _⟩ := I.ok.funs.mem hb
    exact I.base.free b o ho (I.ok.frf b hb) fun z => I.ok.exfs b z hb
theorem Inv.step {g' : Array GenState} {t' : Nat} {d' : Drawn} {ch : List Addr} (I : Inv X pins σ H s)
    (hch : ∀ b ∈ ch, (b ∈ X.ex ∨ X.s₀.heap.objs.size ≤ b) ∧ b ≠ X.env.locals ∧ (∀ x c, X.env.cells.lookup x = some c → c ≠ b) ∧ ∀ p ∈ X.pn ++ pins, p.1 ≠ b)
    (keep : ∀ b o, b ≠ X.env.locals → b ∉ X.fs → b ∉ ch → s.heap.get? b = some o → H b = none → h'.get? b = some o)
    (slot : ∀ b o, b ≠ X.env.locals → b ∈ X.fs → b ∉ ch → s.heap.get? b = some o → H b = none → ∃ sl, h'.get? b = some { o with slots := sl }) (free : ∀ b o, b ∉ ch → s.heap.get? b = some o → H b = none → H' b = none)
    (there : ∀ b o, b ∉ ch → s.heap.get? b = some o → ∃ o', h'.get? b = some o')
    (tups : ∀ b xs, H b = some (.tup xs) → H' b = some (.tup xs)) (frzs : ∀ b o u, H b = some (.frz o u) → H' b = some (.frz o u)) (tbls : ∀ b ps, H b = some (.tbl ps) → ∃ more, H' b = some (.tbl (ps ++ more)))
    (ns : ∀ m, s.heap.Ns X.env.locals m → h'.Ns X.env.locals m) (hok : HOk X.prog X.w H' h') (hg : AllBare g') :
    Inv X pins σ H' { s with heap := h', gens := g', drawn := d', toks := t' } := by
  have neL : ∀ b o, X.s₀.heap.get? b = some o → b ≠ X.env.locals := fun b o e => Nat.ne_of_lt (Nat.lt_of_lt_of_le (Heap.lt_size e) I.ok.above)
  have neC : ∀ b o, X.s₀.heap.get? b = some o → b ∉ X.ex → b ∉ ch := fun b o e hx hb => by
    rcases (hch b hb).1 with z | z
    · exact hx z
    · exact absurd (Nat.lt_of_lt_of_le (Heap.lt_size e) z) (Nat.lt_irrefl _)
  have cellK : ∀ x c, X.env.cells.lookup x = some c → ∀ v, s.heap.IsCell c v → h'.IsCell c v := fun x c e v ⟨o, ho, hd⟩ => by
    have nch : c ∉ ch := fun z => (hch c z).2.2.1 x c e rfl
    by_cases hc : c ∈ X.fs
    · obtain ⟨sl, q⟩ := slot c o (I.cne x c e) hc nch ho (I.freeC x c e)
      exact ⟨_, q, hd⟩
    · exact ⟨o, keep c o (I.cne x c e) hc nch ho (I.freeC x c e), hd⟩
  refine ⟨I.ok, I.os, hg, ⟨fun b o e n hb hx => ?_, fun b o e n hb hx => ?_, fun b o e n hx => ?_, fun b o e hx => ?_, fun b xs e => tups b xs (I.base.tups b xs e), fun b o xs e => frzs b o xs (I.base.frzs b o xs e), fun b ps e => ?_⟩, ?_, fun x c e => ?_, ?_, fun x c e => ?_, fun p hp => ?_, hok, I.len⟩
  · exact keep b o (neL b o e) hb (neC b o e hx) (I.base.keep b o e n hb hx) (I.base.free b o e n hx)
  · obtain ⟨sl, e1⟩ := I.base.slot b o e n hb hx
    obtain ⟨sl', e2⟩ := slot b _ (neL b o e) hb (neC b o e hx) e1 (I.base.free b o e n hx)
    exact ⟨sl', e2⟩
  · obtain ⟨o', e1⟩ := I.base.there b o e hx
    exact free b o' (neC b o e hx) e1 (I.base.free b o e n hx)
  · obtain ⟨o', e1⟩ := I.base.there b o e hx
    exact there b o' (neC b o e hx) e1
  · obtain ⟨m1, e1⟩ := I.base.tbls b ps e
    obtain ⟨m2, e2⟩ := tbls b _ e1
    exact ⟨m1 ++ m2, by rw [e2, Array.append_assoc]⟩
  · obtain ⟨m, hn, hl⟩ := I.loc
    refine ⟨m, ns m hn, fun i x v e1 e2 e3 => ?_⟩
    obtain ⟨u, r, l⟩ := hl i x v e1 e2 e3
    refine ⟨u, r, ?_⟩
    rcases l with l | ⟨k, c, e, z⟩
    · exact .inl l
    · exact .inr ⟨k, c, e, cellK x c e _ z⟩
  · obtain ⟨v, z⟩ := I.cell x c e
    exact ⟨v, cellK x c e v z⟩
  · obtain ⟨m, ⟨o, _, _, ho, _⟩, _⟩ := I.loc
    exact free _ o (fun z => (hch _ z).2.1 rfl) ho I.free
  · obtain ⟨v, o, ho, hd⟩ := I.cell x c e
    exact free c o (fun z => (hch c z).2.2.1 x c e rfl) ho (I.freeC x c e)
  · obtain ⟨e, n, ne, nf, d⟩ := I.pin p hp
    have nch : p.1 ∉ ch := fun z => (hch p.1 z).2.2.2 p hp rfl
    exact ⟨keep p.1 p.2 ne nf nch e n, free p.1 p.2 nch e n, ne, nf, d⟩
theorem Inv.un {t' : Nat} (I : Inv X pins σ H s) (u : Un X.fs [] H H' s.heap h') (hok : HOk X.prog X.w H' h') : Inv X pins σ H' { s with heap := h', toks := t' } := by
  obtain ⟨m, ⟨o, es, ep, ho, r⟩, _⟩ := id I.loc
  obtain ⟨sl, hL⟩ := u.any ho I.free (by simp)
  exact I.step (g' := s.gens) (d' := s.drawn) (ch := []) (fun _ z => nomatch z) (fun b o _ hb _ e n => u.keep b o e n hb (by simp)) (fun b o _ hb _ e n => u.slot b o e n hb (by simp)) (fun b o _ e n => u.free b o e n (by simp)) (fun b o _ e => u.there b o e (by simp)) u.tups u.frzs u.tbls (fun m' hm => by
    obtain ⟨o', es', ep', ho', r'⟩ := hm
    rw [ho] at ho'; cases ho'
    exact ⟨_, es', ep', hL, r'⟩) hok I.bare
theorem Inv.call {g' : Array GenState} {t' : Nat} {d' : Drawn} {ch : List Addr} (I : Inv X pins σ H s) (u : Un (frs X.stack) ch H H' s.heap h') (hok : HOk X.prog X.w H' h') (hg : AllBare g')
    (hch : ∀ b ∈ ch, (b ∈ X.ex ∨ X.s₀.heap.objs.size ≤ b) ∧ b ≠ X.env.locals ∧ (∀ x c, X.env.cells.lookup x = some c → c ≠ b) ∧ ∀ p ∈ X.pn ++ pins, p.1 ≠ b) :
    Inv X pins σ H' { s with heap := h', gens := g', drawn := d', toks := t' } := by
  obtain ⟨m, ⟨o, es, ep, ho, r⟩, _⟩ := id I.loc
  obtain ⟨sl, hL⟩ := u.any ho I.free fun z => (hch _ z).2.1 rfl
  exact I.step (ch := ch) hch (fun b o hL hb hc e n => u.keep b o e n (fun z => (List.mem_cons.mp (I.stkSub b z)).elim hL hb) hc) (fun b o _ _ hc e n => u.any e n hc) (fun b o hc e n => u.free b o e n hc) (fun b o hc e => u.there b o e hc) u.tups u.frzs u.tbls (fun m' hm => by
    obtain ⟨o', es', ep', ho', r'⟩ := hm
    rw [ho] at ho'; cases ho'
    exact ⟨_, es', ep', hL, r'⟩) hok hg
theorem Inv.turned {t' : Nat} {it : Addr} (I : Inv X pins σ H s) (k : ∀ b o, b ≠ it → s.heap.get? b = some o → h'.get? b = some o) (hn : H it = none) (hL : it ≠ X.env.locals)
    (h1 : it ∈ X.ex ∨ X.s₀.heap.objs.size ≤ it) (h2 : ∀ x c, X.env.cells.lookup x = some c → c ≠ it) (h3 : ∀ p ∈ X.pn ++ pins, p.1 ≠ it) : Inv X pins σ H { s with heap := h', toks := t' } := by
  have nit : ∀ b u, H b = some u → b ≠ it := fun b u e z => by rw [z, hn] at e; cases e
  refine I.step (g' := s.gens) (d' := s.drawn) (ch := [it]) (fun b hb => ?_) (fun b o _ _ hc e _ => k b o (fun z => hc (by simp [z])) e) (fun b o _ _ hc e _ => ⟨o.slots, k b o (fun z => hc (by simp [z])) e⟩) (fun _ _ _ _ n => n)
    (fun b o hc e => ⟨o, k b o (fun z => hc (by simp [z])) e⟩) (fun _ _ e => e) (fun _ _ _ e => e) (fun b ps e => ⟨#[], by rw [e]; simp⟩) (fun m hm => ?_) (fun b u e => ?_) I.bare
  · have e : b = it := by simpa using hb
    subst e
    exact ⟨h1, hL, h2, h3⟩
  · obtain ⟨o, es, ep, ho, r⟩ := hm
    exact ⟨o, es, ep, k _ o (Ne.symm hL) ho, r⟩
  · refine (I.hok b u e).stay (fun c v hc q => k c v ?_ q) (fun _ q => q) fun _ _ q => q
    rcases hc with z | z
    · rw [z]; exact nit b u e
    · exact nit c _ z
theorem Inv.tok (I : Inv X pins σ H s) (t : Nat) : Inv X pins σ H { s with toks := t } := I.un (h' := s.heap) (t' := t) Un.refl I.hok
theorem Inv.kept {t' : Nat} (I : Inv X pins σ H s) (k : ∀ b u, s.heap.get? b = some u → h'.get? b = some u) : Inv X pins σ H { s with heap := h', toks := t' } := I.un (Un.kept k) (I.hok.kept k)
theorem Inv.laid {a : Addr} {o : HO} {t' : Nat} (I : Inv X pins σ H s) (k : ∀ b u, s.heap.get? b = some u → h'.get? b = some u) (hp : s.heap.objs.size ≤ a) (new : ObjOk X.prog X.w (upd H a o) h' a o) :
    Inv X pins σ (upd H a o) { s with heap := h', toks := t' } := I.un (Un.laid k hp (I.hok.fresh hp)) (I.hok.laid k hp new)
theorem Inv.write {x e : Addr} {o : HO} {t' : Nat} (I : Inv X pins σ H s) (mu : Mut (H x)) (he : e = x ∨ H e = some (.own x)) (k : ∀ b u, b ≠ e → s.heap.get? b = some u → h'.get? b = some u) (heo : ∃ u, h'.get? e = some u)
    (new : ObjOk X.prog X.w (upd H x o) h' x o) : Inv X pins σ (upd H x o) { s with heap := h', toks := t' } := I.un (Un.write mu he k heo) (I.hok.write mu he k heo new)
theorem Inv.weak {σ' : List (Option V)} (I : Inv X pins σ H s) (hl : σ'.length = σ.length) (w : ∀ (i : Nat) v, σ'[i]? = some (some v) → σ[i]? = some (some v)) : Inv X pins σ' H s :=
  ⟨I.ok, I.os, I.bare, I.base, let ⟨m, hn, hl'⟩ := I.loc; ⟨m, hn, fun i x v e1 e2 e3 => hl' i x v e1 (w i v e2) e3⟩, I.cell, I.free, I.freeC, I.pin, I.hok, hl.trans I.len⟩
theorem Inv.pins_of {pins' : List (Addr × Obj)} (I : Inv X pins σ H s) (h : ∀ p ∈ pins', s.heap.get? p.1 = some p.2 ∧ H p.1 = none ∧ p.1 ≠ X.env.locals ∧ p.1 ∉ X.fs ∧ ∀ v, p.2.data ≠ .cell v) : Inv X pins' σ H s :=
  ⟨I.ok, I.os, I.bare, I.base, I.loc, I.cell, I.free, I.freeC, fun p hp => (List.mem_append.mp hp).elim (fun z => I.pin p (List.mem_append_left _ z)) (h p), I.hok, I.len⟩
theorem nodup_ix {N : List Str} (hN : N.Nodup) {i j : Nat} {x : Str} (a : N[i]? = some x) (b : N[j]? = some x) : i = j := by
  obtain ⟨h1, e1⟩ := List.getElem?_eq_some_iff.mp a
  obtain ⟨h2, e2⟩ := List.getElem?_eq_some_iff.mp b
  exact (List.getElem_inj hN).mp (e1.trans e2.symm)
theorem store_ok2 {M : Model} {A : Around} {E : Value → Shared → Prop} {i : Nat} {x : Str} {v : V} {u : Value} {Q : Unit → Shared → Prop} (I : Inv X pins σ H s) (hN : X.N.Nodup) (hi : X.N[i]? = some x) (hx : Loc X.env.scope x) (r : RelV v u)
    (h : ∀ s', Inv X pins (σ.set i (some v)) H s' → (∃ a, Heap.SameBut a s.heap s'.heap ∧ (a = X.env.locals ∨ X.env.cells.lookup x = some a)) → Q () s') (hf : X.fn x = true ∨ X.env.scope.names.lookup x = some .local := by first | exact .inl rfl | exact .inr rfl | assumption) : wpAny M A (storeName X.env x u) Q E s := by
  obtain ⟨m, hn, hl⟩ := id I.loc
  have hcls : (X.env.scope.kind == .class || (X.env.scope.kind == .module && X.env.locals != X.env.globals)) = false := by rw [I.ok.kind]; rfl
  have hiσ : i < σ.length := by rw [I.len]; exact (List.getElem?_eq_some_iff.mp hi).1
  have cne := I.cne
  have tracked : ∀ {a : Addr} {h' : Heap}, (∃ o, s.heap.get? a = some o ∧ H a = none) → Heap.SameBut a s.heap h' → HOk X.prog X.w H h' := fun {a h'} ha hs b ob e => by
    obtain ⟨_, _, hfree⟩ := ha
    refine (I.hok b ob e).stay (fun c w' hc q => (hs.2 c ?_).trans q) (fun _ q => q) fun _ _ q => q
    rintro rfl
    rcases hc with rfl | hc
    · rw [hfree] at e; cases e
    · rw [hfree] at hc; cases hc
  rcases hx with hk | hk
  · refine wpAny_storeName_local hk hn (fun h' hn' hs => ?_) hcls
    obtain ⟨oL, _, _, hoL, _⟩ := id hn
    refine h _ ⟨I.ok, I.os, I.bare, ⟨fun b o e n hb hx => ?_, fun b o e n hb hx => ?_, I.base.free, fun b o e hx => ?_, I.base.tups, I.base.frzs, I.base.tbls⟩, ⟨_, hn', fun j y v' e1 e2 e3 => ?_⟩, fun y c e => ?_, I.free, I.freeC, fun p hp => ?_, tracked ⟨oL, hoL, I.free⟩ hs, by simpa using I.len⟩ ⟨_, hs, .inl rfl⟩
    · exact (hs.2 b (Nat.ne_of_lt (Nat.lt_of_lt_of_le (Heap.lt_size e) I.ok.above))).trans (I.base.keep b o e n hb hx)
    · obtain ⟨sl, e1⟩ := I.base.slot b o e n hb hx
      exact ⟨sl, (hs.2 b (Nat.ne_of_lt (Nat.lt_of_lt_of_le (Heap.lt_size e) I.ok.above))).trans e1⟩
    · obtain ⟨o', e1⟩ := I.base.there b o e hx
      exact ⟨o', (hs.2 b (Nat.ne_of_lt (Nat.lt_of_lt_of_le (Heap.lt_size e) I.ok.above))).trans e1⟩
    · by_cases hj : j = i
      · subst hj
        rw [hi] at e1; cases e1
        rw [List.getElem?_set_self hiσ] at e2
        cases e2
        exact ⟨u, r, .inl ⟨hk, by simp⟩⟩
      · rw [List.getElem?_set_ne (Ne.symm hj)] at e2
        obtain ⟨u', r', q⟩ := hl j y v' e1 e2 e3
        refine ⟨u', r', ?_⟩
        rcases q with ⟨k, e⟩ | ⟨k, c, e, z⟩
        · refine .inl ⟨k, ?_⟩
          have : y ≠ x := fun e => hj (nodup_ix hN e1 (e ▸ hi))
          simp [this, e]
        · exact .inr ⟨k, c, e, z.sameBut hs (cne y c e)⟩
    · obtain ⟨w', z⟩ := I.cell y c e
      exact ⟨w', z.sameBut hs (cne y c e)⟩
    · obtain ⟨e, n, ne, nf, d⟩ := I.pin p hp
      exact ⟨(hs.2 p.1 ne).trans e, n, ne, nf, d⟩
  · have hfn : X.fn x = true := by
      rcases hf with z | z
      · exact z
      · rw [z] at hk; cases hk
    obtain ⟨c, hc⟩ := I.ok.has x (.inl hk)
    obtain ⟨w', z⟩ := I.cell x c hc
    refine wpAny_storeName_cell I.ok.kind hk hc z (fun h' hc' hs => ?_)
    obtain ⟨oc, hoc, hocd⟩ := id z
    refine h { s with heap := h' } ⟨I.ok, I.os, I.bare, ⟨fun b o e n hb hx => ?_, fun b o e n hb hx => ?_, I.base.free, fun b o e hx => ?_, I.base.tups, I.base.frzs, I.base.tbls⟩, ⟨m, hn.sameBut hs (Ne.symm (cne x c hc)), fun j y v' e1 e2 e3 => ?_⟩, fun y c' e => ?_, I.free, I.freeC, fun p hp => ?_, tracked ⟨oc, hoc, I.freeC x c hc⟩ hs, by simpa using I.len⟩ ⟨c, hs, .inr hc⟩
    · exact (hs.2 b (Nat.ne_of_lt (Nat.lt_of_lt_of_le (Heap.lt_size e) (I.ok.cab x c hfn hc)))).trans (I.base.keep b o e n hb hx)
    · obtain ⟨sl, e1⟩ := I.base.slot b o e n hb hx
      exact ⟨sl, (hs.2 b (Nat.ne_of_lt (Nat.lt_of_lt_of_le (Heap.lt_size e) (I.ok.cab x c hfn hc)))).trans e1⟩
    · obtain ⟨o', e1⟩ := I.base.there b o e hx
      exact ⟨o', (hs.2 b (Nat.ne_of_lt (Nat.lt_of_lt_of_le (Heap.lt_size e) (I.ok.cab x c hfn hc)))).trans e1⟩
    · by_cases hj : j = i
      · subst hj
        rw [hi] at e1; cases e1
        rw [List.getElem?_set_self hiσ] at e2
        cases e2
        exact ⟨u, r, .inr ⟨.inl hk, c, hc, hc'⟩⟩
      · rw [List.getElem?_set_ne (Ne.symm hj)] at e2
        obtain ⟨u', r', q⟩ := hl j y v' e1 e2 e3
        refine ⟨u', r', ?_⟩
        rcases q with q | ⟨k, c', e, z'⟩
        · exact .inl q
        · refine .inr ⟨k, c', e, z'.sameBut hs ?_⟩
          rintro rfl
          exact hj (nodup_ix hN e1 (I.ok.inj _ _ _ e hc ▸ hi))
    · by_cases hcc : c' = c
      · subst hcc; exact ⟨_, hc'⟩
      · obtain ⟨w2, z2⟩ := I.cell y c' e
        exact ⟨w2, z2.sameBut hs hcc⟩
    · obtain ⟨e, n, ne, nf, d⟩ := I.pin p hp
      refine ⟨(hs.2 p.1 ?_).trans e, n, ne, nf, d⟩
      intro q
      rw [q, hoc] at e
      have q' : oc = p.2 := Option.some.inj e
      exact d w' (by rw [← q']; exact hocd)
theorem store_ok {M : Model} {A : Around} {E : Value → Shared → Prop} {i : Nat} {x : Str} {v : V} {u : Value} {Q : Unit → Shared → Prop} (I : Inv X pins σ H s) (hN : X.N.Nodup) (hi : X.N[i]? = some x) (hx : Loc X.env.scope x) (r : RelV v u)
    (h : ∀ s', Inv X pins (σ.set i (some v)) H s' → Q () s') (hf : X.fn x = true ∨ X.env.scope.names.lookup x = some .local := by first | exact .inl rfl | exact .inr rfl | assumption) : wpAny M A (storeName X.env x u) Q E s :=
  store_ok2 I hN hi hx r (fun s' I' _ => h s' I') hf
theorem Inv.call' {s' : Shared} {ch : List Addr} (I : Inv X pins σ H s) (ho : s'.os = s.os) (u : Un (frs X.stack) ch H H' s.heap s'.heap) (hok : HOk X.prog X.w H' s'.heap) (hg : AllBare s'.gens)
    (hch : ∀ b ∈ ch, (b ∈ X.ex ∨ X.s₀.heap.objs.size ≤ b) ∧ b ≠ X.env.locals ∧ (∀ x c, X.env.cells.lookup x = some c → c ≠ b) ∧ ∀ p ∈ X.pn ++ pins, p.1 ≠ b) : Inv X pins σ H' s' := by
  obtain ⟨h', g', d', t', o'⟩ := s'
  have e : o' = s.os := ho
  subst e
  exact I.call (g' := g') (t' := t') (d' := d') u hok hg hch
end
abbrev XK := Value → Option Addr → Hp → Prop
abbrev St := List (Option V)
abbrev VK := V → Hp → Prop
abbrev TE := St → Hp → VK → Prop
abbrev TT := St → Hp → (Bool → Hp → Prop) → Prop
abbrev TA := St → Hp → (List V → Hp → Prop) → Prop
structure Ends where
  nx : St → Hp → Prop
  rt : VK
  bk : St → Hp → Prop := fun _ _ => False
  ct : St → Hp → Prop := fun _ _ => False
abbrev TS := Ends → St → Hp → Prop
def EP (X : Cx) (pins : List (Addr × Obj)) (σ : St) (Q : VK) (u : Value) (s' : Shared) : Prop := ∃ v H', Inv X pins σ H' s' ∧ RelV v u ∧ Q v H'
def TP (X : Cx) (pins : List (Addr × Obj)) (σ : St) (Q : Bool → Hp → Prop) (b : Bool) (s' : Shared) : Prop := ∃ H', Inv X pins σ H' s' ∧ Q b H'
def AP (X : Cx) (pins : List (Addr × Obj)) (σ : St) (Q : List V → Hp → Prop) (us : List Value) (s' : Shared) : Prop := ∃ vs H', Inv X pins σ H' s' ∧ Vals vs us ∧ Q vs H'
def SP (X : Cx) (pins : List (Addr × Obj)) (D : Ends) (f : Flow) (s' : Shared) : Prop :=
  match f with
  | .next => ∃ σ' H', Inv X pins σ' H' s' ∧ D.nx σ' H'
  | .brk => ∃ σ' H', Inv X pins σ' H' s' ∧ D.bk σ' H'
  | .cont => ∃ σ' H', Inv X pins σ' H' s' ∧ D.ct σ' H'
  | .ret u => ∃ v σ' H', Inv X pins σ' H' s' ∧ RelV v u ∧ D.rt v H'
def PE (X : Cx) (e : Expr) (t : TE) : Prop :=
  ∀ (pins : List (Addr × Obj)) (s : Shared) (σ : St) (H : Hp) (Q : VK), Inv X pins σ H s → t σ H Q → wpAny (model X.prog X.w) X.A (eval e X.env) (EP X pins σ Q) X.xe s
def PT (X : Cx) (e : Expr) (t : TT) : Prop :=
  ∀ (pins : List (Addr × Obj)) (s : Shared) (σ : St) (H : Hp) (Q : Bool → Hp → Prop), Inv X pins σ H s → t σ H Q → wpAny (model X.prog X.w) X.A (isTrue e X.env (eval e X.env)) (TP X pins σ Q) X.xe s
def PW (X : Cx) (e : Expr) (t : TT) : Prop :=
  ∀ (whole : Sem Value) (pins : List (Addr × Obj)) (s : Shared) (σ : St) (H : Hp) (Q : Bool → Hp → Prop), Inv X pins σ H s → t σ H Q → wpAny (model X.prog X.w) X.A (isTrue e X.env whole) (TP X pins σ Q) X.xe s
theorem PW.pt {X : Cx} {e : Expr} {t : TT} (h : PW X e t) : PT X e t := h _
def PA (X : Cx) (es : List Expr) (t : TA) : Prop :=
  ∀ (pos : Pos) (pins : List (Addr × Obj)) (s : Shared) (σ : St) (H : Hp) (Q : List V → Hp → Prop), Inv X pins σ H s → t σ H Q → wpAny (model X.prog X.w) X.A (spliced (backTo pos (starEach es X.env))) (AP X pins σ Q) X.xe s
def PS (X : Cx) (st : Stmt) (t : TS) : Prop :=
  ∀ (pins : List (Addr × Obj)) (s : Shared) (σ : St) (H : Hp) (D : Ends), Inv X pins σ H s → t D σ H → wpAny (model X.prog X.w) X.A (exec st X.env) (SP X pins D) X.xe s
def PSs (X : Cx) (st : List Stmt) (t : TS) : Prop :=
  ∀ (pins : List (Addr × Obj)) (s : Shared) (σ : St) (H : Hp) (D : Ends), Inv X pins σ H s → t D σ H → wpAny (model X.prog X.w) X.A (execs st X.env) (SP X pins D) X.xe s
theorem thn {α : Type} {t : Sem α} {Q Q' : α → Shared → Prop} {M : Model} {A : Around} {E : Value → Shared → Prop} {s : Shared} (h : wpAny M A t Q E s) (hQ : ∀ a s, Q a s → Q' a s) : wpAny M A t Q' E s := wpAny_mono h hQ fun _ _ x => x
end L2
namespace L2
open PySem PySem.Spec PyProof.Rows
section
variable {X : Cx}
theorem bin {a b : Expr} {ta tb : TE} (ha : PE X a ta) (hb : PE X b tb) {pins : List (Addr × Obj)} {s : Shared} {σ : St} {H : Hp} {R : V → V → Hp → Prop} (I : Inv X pins σ H s) (h : ta σ H fun x H1 => tb σ H1 fun y H2 => R x y H2)
    {α : Type} {Q : α → Shared → Prop} {f : Value → Value → Sem α}
    (hf : ∀ v u s2 x y H2, Inv X pins σ H2 s2 → RelV x v → RelV y u → R x y H2 → wpAny (model X.prog X.w) X.A (f v u) Q X.xe s2) :
    wpAny (model X.prog X.w) X.A (eval a X.env) (fun v s₁ => wpAny (model X.prog X.w) X.A (eval b X.env) (fun u s₂ => wpAny (model X.prog X.w) X.A (f v u) Q X.xe s₂) X.xe s₁) X.xe s := by
  refine thn (ha pins s σ H _ I h) fun v s1 ⟨x, H1, I1, r1, q1⟩ => ?_
  refine thn (hb pins s1 σ H1 _ I1 q1) fun u s2 ⟨y, H2, I2, r2, q2⟩ => ?_
  exact hf v u s2 x y H2 I2 r1 r2 q2
def tVar (i : Nat) : TE := fun σ H Q => ∃ v, σ[i]? = some (some v) ∧ Q v H
def tC (v : V) : TE := fun _ H Q => Q v H
theorem pe_var {i : Nat} {x : Str} {pos : Pos} (hN : X.N[i]? = some x) (hv : Vis X.env.scope x) (hd : (x == ("__debug__" : Str)) = false := by decide) (hcd : (x == ("__classdict__" : Str)) = false := by decide) : PE X (.Name x pos) (tVar i) := by
  intro pins s σ H Q I h
  obtain ⟨v, e, h⟩ := h
  obtain ⟨m, hn, hl⟩ := I.loc
  obtain ⟨u, r, l⟩ := hl i x v hN e hv
  have fin : EP X pins σ Q u s := ⟨v, H, I, r, h⟩
  rcases l with ⟨hk, hm⟩ | ⟨hk, c, hc, hcell⟩
  · exact wpAny_Name (wpAny_loadName_local I.ok.kind hk hn hm fin) hd
  · rcases hk with hk | hk
    · exact wpAny_Name (wpAny_loadName_cell I.ok.kind hk hc hcell fin) hd
    · exact wpAny_Name (wpAny_loadName_free I.ok.kind hk hc hcell fin hcd) hd
theorem pe_int {i j pos} : PE X (.Constant (.int i) j pos) (tC (.int i)) := fun _ _ _ H _ I h => wpAny_Constant_int ⟨.int i, H, I.tok _, ⟨_, rfl⟩, h⟩
theorem pe_non {j pos} : PE X (.Constant .none j pos) (tC .non) := fun _ _ _ H _ I h => Constant_none ⟨.non, H, I, rfl, h⟩
theorem pe_str {x j pos} : PE X (.Constant (.str x) j pos) (tC (.str x)) := fun _ _ _ H _ I h => Calls.Constant_str ⟨.str x, H, I.tok _, ⟨_, rfl⟩, h⟩
def Gl (X : Cx) (x : Str) : Prop := X.env.kindOf x = some .globalImplicit
theorem ld_glob {E : Value → Shared → Prop} {pins : List (Addr × Obj)} {s : Shared} {σ : St} {H : Hp} {x : Str} {u : Value} {pos : Pos} {Q : Value → Shared → Prop} (I : Inv X pins σ H s) (hg : Gl X x) (hm : X.mg x = some u) (h : Q u s)
    (hd : (x == ("__debug__" : Str)) = false := by decide) : wpAny (model X.prog X.w) X.A (eval (.Name x pos) X.env) Q E s :=
  Calls.Name_function_global I.ok.kind hg (Calls.loadGlobal_global (by rw [I.ok.glob]; exact I.mod.glob.keeps I.bk) hm h) hd
theorem ld_blt {E : Value → Shared → Prop} {pins : List (Addr × Obj)} {s : Shared} {σ : St} {H : Hp} {x : Str} {u : Value} {pos : Pos} {Q : Value → Shared → Prop} (I : Inv X pins σ H s) (hg : Gl X x) (hm : X.mg x = none) (hv : bootBuiltins x = some u) (h : Q u s)
    (hn : x ≠ "__name__" := by decide) (hd : (x == ("__debug__" : Str)) = false := by decide) : wpAny (model X.prog X.w) X.A (eval (.Name x pos) X.env) Q E s := by
  obtain ⟨mb, h1, h2⟩ := I.mod.blt
  exact Calls.Name_function_global I.ok.kind hg (Calls.loadGlobal_builtin (by rw [I.ok.glob]; exact I.mod.glob.keeps I.bk) hm (by rw [I.ok.blt]; exact h1.keeps I.bk) ((h2 x hn).trans hv) h) hd
theorem pe_glob {x : Str} {v : V} {u : Value} {pos : Pos} (hg : Gl X x) (hm : X.mg x = some u) (r : RelV v u) (hd : (x == ("__debug__" : Str)) = false := by decide) : PE X (.Name x pos) (tC v) :=
  fun _ _ _ H _ I h => ld_glob I hg hm ⟨v, H, I, r, h⟩ hd
variable {a b : Expr} {ta tb : TE} {pos : Pos}
def PC (X : Cx) (op : CmpOp) (a b : Expr) (t : TE) : Prop :=
  ∀ (pins : List (Addr × Obj)) (s : Shared) (σ : St) (H : Hp) (Q : VK), Inv X pins σ H s → t σ H Q →
    wpAny (model X.prog X.w) X.A (eval a X.env) (fun v s₁ => wpAny (model X.prog X.w) X.A (eval b X.env) (fun u s₂ => wpAny (model X.prog X.w) X.A (compareOp op v u) (EP X pins σ Q) X.xe s₂) X.xe s₁) X.xe s
theorem nobehind (b : Expr) {op : CmpOp} (h : op ≠ .In) (h2 : op ≠ .NotIn) : behindInMarks op b = false := by
  have e1 : (op == CmpOp.In) = false := by cases op <;> first | rfl | exact absurd rfl h
  have e2 : (op == CmpOp.NotIn) = false := by cases op <;> first | rfl | exact absurd rfl h2
  cases b <;> simp [behindInMarks, e1, e2]
def tIsN (ta : TE) : TE := fun σ H Q => ta σ H fun x H1 => Q (.bl (decide (x = .non))) H1
theorem RelV.none_iff {x : V} {v : Value} (r : RelV x v) : (v == Value.none) = decide (x = .non) := by
  cases x with
  | non => cases r; rfl
  | bl _ => cases r; rfl
  | int _ => obtain ⟨t, rfl⟩ := r; rfl
  | str _ => obtain ⟨t, rfl⟩ := r; rfl
  | byt _ => obtain ⟨t, rfl⟩ := r; rfl
  | flt _ => obtain ⟨t, rfl⟩ := r; rfl
  | ref _ => cases r; rfl
  | ty _ => cases r; rfl
theorem pc_isN {j pos'} (ha : PE X a ta) : PC X .Is a (.Constant .none j pos') (tIsN ta) := by
  intro pins s σ H Q I h
  refine thn (ha pins s σ H _ I h) fun v s1 ⟨x, H1, I1, r1, q1⟩ => ?_
  exact Constant_none (is_none_gen ⟨.bl _, H1, I1, by rw [r1.none_iff]; rfl, q1⟩)
def tB (t : TE) : TT := fun σ H Q => t σ H fun x H1 => ∃ c, x = .bl c ∧ Q c H1
theorem pt_cmp {op : CmpOp} {t : TE} (h : PC X op a b t) (h1 : behindInMarks op b = false := by first | exact nobehind _ (by decide) (by decide) | rfl) : PT X (.Compare a [op] [b] pos) (tB t) := by
  intro pins s σ H Q I hw
  refine wpAny_isTrue_Compare1 (thn (h pins s σ H _ I hw) fun v s1 h1 => thn h1 fun u s2 h2 => thn h2 fun c s3 ⟨x, H1, I1, r1, q1⟩ => ?_) h1
  obtain ⟨d, rfl, q⟩ := q1
  cases r1
  exact wpAny_truthy_bool ⟨H1, I1, q⟩
theorem pt_val {e : Expr} {t : TE} (h : PE X e t) (he : ∀ whole, isTrue e X.env whole = (do let v ← whole; standAt e.pos; holding [v] (truthy v)) := by intro _; rfl) : PT X e (tB t) := by
  intro pins s σ H Q I hw
  refine isTrue_plain (thn (h pins s σ H _ I hw) fun v s1 ⟨x, H1, I1, r1, q1⟩ => ?_) (he _)
  obtain ⟨d, rfl, q⟩ := q1
  cases r1
  exact wpAny_truthy_bool ⟨H1, I1, q⟩
variable {tA tB' : TT} {rest : List Expr}
def tAnd (t u : TT) : TT := fun σ H Q => t σ H fun c H1 => if c = true then u σ H1 Q else Q false H1
def tOr (t u : TT) : TT := fun σ H Q => t σ H fun c H1 => if c = true then Q true H1 else u σ H1 Q
def tNot (t : TT) : TT := fun σ H Q => t σ H fun c H1 => Q (!c) H1
theorem pw_and1 (ha : PT X a tA) : PW X (.BoolOp .And [a] pos) tA := by
  intro wh pins s σ H Q I h
  refine isTrue_and (thn (ha pins s σ H Q I h) fun c s1 e => ?_)
  cases c with
  | true => exact isTrue_and_nil e
  | false => exact e
theorem pw_or1 (ha : PT X a tA) : PW X (.BoolOp .Or [a] pos) tA := by
  intro wh pins s σ H Q I h
  refine isTrue_or (thn (ha pins s σ H Q I h) fun c s1 e => ?_)
  cases c with
  | false => exact isTrue_or_nil e
  | true => exact e
theorem pw_and (ha : PT X a tA) (hb : PW X (.BoolOp .And (b :: rest) pos) tB') : PW X (.BoolOp .And (a :: b :: rest) pos) (tAnd tA tB') := by
  intro wh pins s σ H Q I h
  refine isTrue_and (thn (ha pins s σ H _ I h) fun c s1 ⟨H1, I1, q1⟩ => ?_)
  cases c with
  | true => exact hb wh pins s1 σ H1 Q I1 q1
  | false => exact ⟨H1, I1, q1⟩
theorem pw_or (ha : PT X a tA) (hb : PW X (.BoolOp .Or (b :: rest) pos) tB') : PW X (.BoolOp .Or (a :: b :: rest) pos) (tOr tA tB') := by
  intro wh pins s σ H Q I h
  refine isTrue_or (thn (ha pins s σ H _ I h) fun c s1 ⟨H1, I1, q1⟩ => ?_)
  cases c with
  | true => exact ⟨H1, I1, q1⟩
  | false => exact hb wh pins s1 σ H1 Q I1 q1
theorem pt_not (ha : PT X a tA) : PT X (.UnaryOp .Not a pos) (tNot tA) := by
  intro pins s σ H Q I h
  exact isTrue_not (ha pins s σ H (fun c H1 => Q (!c) H1) I h)
def tAndV (ta tb : TE) : TE := fun σ H Q => ta σ H fun x H1 => ∃ c, x = .bl c ∧ if c = true then tb σ H1 Q else Q (.bl false) H1
theorem pe_one {op} {t : TE} (h : PE X a t) : PE X (.BoolOp op [a] pos) t := fun pins s σ H Q I hw => BoolOp_one (h pins s σ H Q I hw)
theorem pe_and (ha : PE X a ta) (hb : PE X (.BoolOp .And (b :: rest) pos) tb) : PE X (.BoolOp .And (a :: b :: rest) pos) (tAndV ta tb) := by
  intro pins s σ H Q I h
  refine BoolOp_and (thn (ha pins s σ H _ I h) fun v s1 ⟨x, H1, I1, r1, q1⟩ => ?_)
  obtain ⟨c, rfl, q1⟩ := q1
  cases r1
  refine wpAny_truthy_bool ?_
  cases c with
  | true => exact hb pins s1 σ H1 Q I1 q1
  | false => exact ⟨.bl false, H1, I1, rfl, q1⟩
def tIf (t : TT) (ta tb : TE) : TE := fun σ H Q => t σ H fun c H1 => if c = true then ta σ H1 Q else tb σ H1 Q
theorem pe_ifExp {c : Expr} (hc : PT X c tA) (ha : PE X a ta) (hb : PE X b tb) : PE X (.IfExp c a b pos) (tIf tA ta tb) := by
  intro pins s σ H Q I h
  refine wpAny_IfExp (thn (hc pins s σ H _ I h) fun d s1 ⟨H1, I1, q1⟩ => ?_)
  cases d with
  | true => exact ha pins s1 σ H1 Q I1 q1
  | false => exact hb pins s1 σ H1 Q I1 q1
end
end L2
namespace L2
open PySem PySem.Spec PyProof.Rows
def SqL (K : PySem.W.Frag) (H : Hp) (a : Addr) (xs : List V) : Prop :=
  Rd H a (.lst xs) ∨
    ∃ (o : Obj) (its : Array Value) (n : Nat), K.lookup a = some o ∧ o.cls = .type "list" ∧ o.dict = none ∧ o.data = .seq its n ∧ its.size ≤ sizeLine ∧ Vals xs its.toList
def SqT (K : PySem.W.Frag) (H : Hp) (a : Addr) (xs : List V) : Prop :=
  Rd H a (.tup xs) ∨
    ∃ (o : Obj) (its : Array Value) (n : Nat), K.lookup a = some o ∧ o.cls = .type "tuple" ∧ o.data = .seq its n ∧ its.size ≤ sizeLine ∧ Vals xs its.toList
def absV : Value → Option V
  | .none => some .non
  | .bool b => some (.bl b)
  | .int i _ => some (.int i)
  | .str x _ => some (.str x)
  | .bytes b _ => some (.byt b)
  | .float b _ => some (.flt b)
  | .ref a => some (.ref a)
  | .type n => some (.ty n)
  | _ => none
theorem RelV.abs {x : V} {u : Value} (r : RelV x u) : absV u = some x := by
  cases x with
  | non => cases r; rfl
  | bl _ => cases r; rfl
  | int _ => obtain ⟨t, rfl⟩ := r; rfl
  | str _ => obtain ⟨t, rfl⟩ := r; rfl
  | byt _ => obtain ⟨t, rfl⟩ := r; rfl
  | flt _ => obtain ⟨t, rfl⟩ := r; rfl
  | ref _ => cases r; rfl
  | ty _ => cases r; rfl
theorem RelV.inj {x y : V} {u : Value} (r : RelV x u) (q : RelV y u) : x = y := Option.some.inj (r.abs.symm.trans q.abs)
theorem Vals.inj : ∀ {xs ys : List V} {us : List Value}, Vals xs us → Vals ys us → xs = ys
  | _, _, _, .nil, .nil => rfl
  | _, _, _, .cons r t, .cons r' t' => by rw [r.inj r', Vals.inj t t']
section
variable {X : Cx} {pins : List (Addr × Obj)} {σ : St} {H : Hp} {s : Shared} {a : Addr} {xs ys : List V}
theorem SqL.of {K : PySem.W.Frag} (h : H a = some (.lst xs)) : SqL K H a xs := .inl (.inl h)
theorem SqT.of {K : PySem.W.Frag} (h : H a = some (.tup xs)) : SqT K H a xs := .inl (.inl h)
theorem Inv.list (I : Inv X pins σ H s) (h : SqL X.K H a xs) : ∃ its : List Value, Vals xs its ∧ PlainL s.heap a its.toArray ∧ xs.length ≤ sizeLine := by
  rcases h with h | ⟨o, its, n, hk, hc, hd, hs, hz, r⟩
  · obtain ⟨z, its, n, r, e⟩ := h.ok I.hok
    exact ⟨its, r, ⟨_, n, e, rfl, rfl, rfl⟩, z⟩
  · refine ⟨its.toList, r, ⟨o, n, I.kIn a o hk, hc, hd, by simpa using hs⟩, ?_⟩
    have e := r.length
    simp only [Array.length_toList] at e
    omega
theorem Inv.tuple (I : Inv X pins σ H s) (h : SqT X.K H a xs) : ∃ its : List Value, Vals xs its ∧ IsTup s.heap a its.toArray ∧ xs.length ≤ sizeLine := by
  rcases h with h | ⟨o, its, n, hk, hc, hs, hz, r⟩
  · obtain ⟨z, its, r, p⟩ := h.ok I.hok
    exact ⟨its, r, p, z⟩
  · refine ⟨its.toList, r, ⟨o, I.kIn a o hk, hc, n, by simpa using hs⟩, ?_⟩
    have e := r.length
    simp only [Array.length_toList] at e
    omega
theorem Inv.list_inj (I : Inv X pins σ H s) (h : SqL X.K H a xs) (h' : SqL X.K H a ys) : xs = ys := by
  obtain ⟨its, r, ⟨o, n, e, _, _, d⟩, _⟩ := I.list h
  obtain ⟨its', r', ⟨o', n', e', _, _, d'⟩, _⟩ := I.list h'
  rw [e] at e'; cases e'
  rw [d] at d'
  injection d' with d1 _
  have : its = its' := by simpa using congrArg Array.toList d1
  subst this
  exact r.inj r'
theorem Inv.tuple_inj (I : Inv X pins σ H s) (h : SqT X.K H a xs) (h' : SqT X.K H a ys) : xs = ys := by
  obtain ⟨its, r, ⟨o, e, _, n, d⟩, _⟩ := I.tuple h
  obtain ⟨its', r', ⟨o', e', _, n', d'⟩, _⟩ := I.tuple h'
  rw [e] at e'; cases e'
  rw [d] at d'
  injection d' with d1 _
  have : its = its' := by simpa using congrArg Array.toList d1
  subst this
  exact r.inj r'
end
abbrev Cx.wish (X : Cx) (E : Value → Shared → Prop) : Cx := { X with xe := E }
abbrev Cx.nox (X : Cx) : Cx := X.wish fun _ _ => False
theorem Cx.Ok.wish {X : Cx} (ok : X.Ok) (E : Value → Shared → Prop) : (X.wish E).Ok :=
  ⟨ok.mod, ok.kind, ok.glob, ok.blt, ok.above, ok.inj, ok.has, ok.cab, ok.hd, ok.frames, ok.stk, ok.exf, ok.bs, ok.bsz, ok.noex, ok.exfs, ok.funs, ok.frf⟩
theorem Cx.Ok.unwish {X : Cx} {E : Value → Shared → Prop} (ok : (X.wish E).Ok) : X.Ok :=
  ⟨ok.mod, ok.kind, ok.glob, ok.blt, ok.above, ok.inj, ok.has, ok.cab, ok.hd, ok.frames, ok.stk, ok.exf, ok.bs, ok.bsz, ok.noex, ok.exfs, ok.funs, ok.frf⟩
section
variable {X : Cx} {pins : List (Addr × Obj)} {σ : St} {H : Hp} {s : Shared} {E : Value → Shared → Prop}
theorem Inv.wish (I : Inv X pins σ H s) (E : Value → Shared → Prop) : Inv (X.wish E) pins σ H s := ⟨I.ok.wish E, I.os, I.bare, I.base, I.loc, I.cell, I.free, I.freeC, I.pin, I.hok, I.len⟩
theorem Inv.unwish (I : Inv (X.wish E) pins σ H s) : Inv X pins σ H s := ⟨I.ok.unwish, I.os, I.bare, I.base, I.loc, I.cell, I.free, I.freeC, I.pin, I.hok, I.len⟩
theorem SP.unwish {D : Ends} {f : Flow} {s' : Shared} (h : SP (X.wish E) pins D f s') : SP X pins D f s' := by
  cases f with
  | next => obtain ⟨σ', H', I, q⟩ := h; exact ⟨σ', H', I.unwish, q⟩
  | brk => obtain ⟨σ', H', I, q⟩ := h; exact ⟨σ', H', I.unwish, q⟩
  | cont => obtain ⟨σ', H', I, q⟩ := h; exact ⟨σ', H', I.unwish, q⟩
  | ret u => obtain ⟨v, σ', H', I, r, q⟩ := h; exact ⟨v, σ', H', I.unwish, r, q⟩
theorem PE.nox {e : Expr} {t : TE} (h : PE X.nox e t) : PE X e t := fun pins s σ H Q I hw =>
  wpAny_mono (h pins s σ H Q (I.wish _) hw) (fun _ _ ⟨v, H', I', r, q⟩ => ⟨v, H', I'.unwish, r, q⟩) fun _ _ z => False.elim z
theorem PT.nox {e : Expr} {t : TT} (h : PT X.nox e t) : PT X e t := fun pins s σ H Q I hw =>
  wpAny_mono (h pins s σ H Q (I.wish _) hw) (fun _ _ ⟨H', I', q⟩ => ⟨H', I'.unwish, q⟩) fun _ _ z => False.elim z
theorem PSs.nox {st : List Stmt} {t : TS} (h : PSs X.nox st t) : PSs X st t := fun pins s σ H D I hw =>
  wpAny_mono (h pins s σ H D (I.wish _) hw) (fun _ _ q => q.unwish) fun _ _ z => False.elim z
end
section
variable {X : Cx} {st : Stmt} {rest : List Stmt} {t u : TS} {e : Expr} {te : TE} {pos : Pos}
def tNext : TS := fun D σ H => D.nx σ H
def tSeq (t u : TS) : TS := fun D σ H => t { D with nx := u D } σ H
theorem pss_nil : PSs X [] tNext := fun _ _ σ H _ I h => wpAny_execs_nil ⟨σ, H, I, h⟩
theorem pss_cons (h1 : PS X st t) (h2 : PSs X rest u) : PSs X (st :: rest) (tSeq t u) := by
  intro pins s σ H D I h
  refine wpAny_execs_cons (thn (h1 pins s σ H { D with nx := u D } I h) fun f s1 q => ?_)
  cases f with
  | next =>
    obtain ⟨σ', H', I', q⟩ := q
    exact h2 pins s1 σ' H' D I' q
  | ret v => exact q
  | brk => exact q
  | cont => exact q
theorem pss_one (h1 : PS X st t) : PSs X [st] t := by
  intro pins s σ H D I h
  refine wpAny_execs_cons (thn (h1 pins s σ H D I h) fun f s1 q => ?_)
  cases f with
  | next => exact wpAny_execs_nil q
  | ret v => exact q
  | brk => exact q
  | cont => exact q
theorem Inv.quiet {pins : List (Addr × Obj)} {σ : St} {H : Hp} {s : Shared} (I : Inv X pins σ H s) : interactive X.env = false := by simp [interactive, I.ok.kind]
def tDrop (te : TE) : TS := fun D σ H => te σ H fun _ H1 => D.nx σ H1
theorem ps_expr (he : PE X e te) (hs : swapsWith e none pos.line X.env = pure false := by rfl) : PS X (.Expr e pos) (tDrop te) := by
  intro pins s σ H D I h
  exact wpAny_Expr_any (thn (he pins s σ H _ I h) fun v s1 ⟨x, H1, I1, r1, q1⟩ => ⟨σ, H1, I1, q1⟩) I.quiet hs
def tRet (te : TE) : TS := fun D σ H => te σ H D.rt
theorem ps_ret (he : PE X e te) : PS X (.Return (some e) pos) (tRet te) := by
  intro pins s σ H D I h
  exact wpAny_Return_some (thn (he pins s σ H _ I h) fun v s1 ⟨x, H1, I1, r1, q1⟩ => ⟨x, σ, H1, I1, r1, q1⟩)
def tIfS (c : TT) (t u : TS) : TS := fun D σ H => c σ H fun b H1 => if b = true then t D σ H1 else u D σ H1
theorem ps_if {c : Expr} {a b : List Stmt} {tc : TT} (hc : PT X c tc) (ha : PSs X a t) (hb : PSs X b u) : PS X (.If c a b pos) (tIfS tc t u) := by
  intro pins s σ H D I h
  refine wpAny_If (thn (hc pins s σ H _ I h) fun d s1 ⟨H1, I1, q1⟩ => ?_)
  cases d with
  | true => exact ha pins s1 σ H1 D I1 q1
  | false => exact hb pins s1 σ H1 D I1 q1
def tNever : TS := fun _ _ _ => False
theorem ps_never : PS X st tNever := fun _ _ _ _ _ _ h => h.elim
end
abbrev TG := V → St → Hp → (St → Hp → Prop) → Prop
abbrev TGs := List V → St → Hp → (St → Hp → Prop) → Prop
def PG (X : Cx) (target : Expr) (t : TG) : Prop :=
  ∀ (pins : List (Addr × Obj)) (s : Shared) (σ : St) (H : Hp) (v : V) (u : Value) (Q : St → Hp → Prop), Inv X pins σ H s → RelV v u → t v σ H Q →
    wpAny (model X.prog X.w) X.A (assign target X.env u) (fun _ s' => ∃ σ' H', Inv X pins σ' H' s' ∧ Q σ' H') X.xe s
def PGs (X : Cx) (ts : List Expr) (t : TGs) : Prop :=
  ∀ (pins : List (Addr × Obj)) (s : Shared) (σ : St) (H : Hp) (vs : List V) (us : List Value) (Q : St → Hp → Prop), Inv X pins σ H s → Vals vs us → t vs σ H Q →
    wpAny (model X.prog X.w) X.A (assignInOrder ((assignEach ts X.env).map (·.2)) us) (fun _ s' => ∃ σ' H', Inv X pins σ' H' s' ∧ Q σ' H') X.xe s
abbrev TSet := V → V → V → Hp → (Hp → Prop) → Prop
def PSet (X : Cx) (t : TSet) : Prop :=
  ∀ (pins : List (Addr × Obj)) (s : Shared) (σ : St) (H : Hp) (o i v : V) (ov iv u : Value) (Q : Hp → Prop), Inv X pins σ H s → RelV o ov → RelV i iv → RelV v u → t o i v H Q →
    wpAny (model X.prog X.w) X.A (setItem ov iv u) (fun _ s' => ∃ H', Inv X pins σ H' s' ∧ Q H') X.xe s
abbrev TIp := V → V → Hp → VK → Prop
def PIp (X : Cx) (op : Operator) (t : TIp) : Prop :=
  ∀ (pins : List (Addr × Obj)) (s : Shared) (σ : St) (H : Hp) (x y : V) (v u : Value) (Q : VK), Inv X pins σ H s → RelV x v → RelV y u → t x y H Q →
    wpAny (model X.prog X.w) X.A (inplaceOp op v u) (EP X pins σ Q) X.xe s
section
variable {X : Cx} {pos : Pos}
def gName (i : Nat) : TG := fun v σ H Q => Q (σ.set i (some v)) H
theorem pg_name {i : Nat} {x : Str} (hN : X.N.Nodup) (hi : X.N[i]? = some x) (hx : Loc X.env.scope x) (hf : X.fn x = true ∨ X.env.scope.names.lookup x = some .local := by first | exact .inl rfl | exact .inr rfl | assumption) : PG X (.Name x pos) (gName i) := by
  intro pins s σ H v u Q I r h
  exact wpAny_assign_Name (store_ok I hN hi hx r (fun s' I' => ⟨_, H, I', h⟩) hf)
def gNil : TGs := fun vs σ H Q => vs = [] ∧ Q σ H
def gCons (t : TG) (u : TGs) : TGs := fun vs σ H Q => ∃ v r, vs = v :: r ∧ t v σ H fun σ' H' => u r σ' H' Q
theorem pgs_nil : PGs X [] gNil := by
  intro pins s σ H vs us Q I r h
  obtain ⟨e, h⟩ := h
  subst e
  cases r
  exact assignInOrder_nil ⟨σ, H, I, h⟩
theorem pgs_cons {e : Expr} {es : List Expr} {t : TG} {u : TGs} (h1 : PG X e t) (h2 : PGs X es u)
    (hs : (assignEach (e :: es) X.env).map (·.2) = assign e X.env :: (assignEach es X.env).map (·.2) := by rfl) : PGs X (e :: es) (gCons t u) := by
  intro pins s σ H vs us Q I r h
  obtain ⟨v, vr, e1, h⟩ := h
  subst e1
  cases r with
  | cons r rr =>
    rw [hs]
    refine assignInOrder_cons (thn (h1 pins s σ H _ _ _ I r h) fun _ s1 ⟨σ1, H1, I1, q1⟩ => ?_)
    exact h2 pins s1 σ1 H1 _ _ Q I1 rr q1
def gTup (K : PySem.W.Frag) (n : Nat) (t : TGs) : TG := fun v σ H Q => ∃ a xs, v = .ref a ∧ SqT K H a xs ∧ xs.length = n ∧ t xs σ H Q
theorem pg_tup {es : List Expr} {k : Nat} {t : TGs} {n : Nat} (hc : X.calm = true) (h : PGs X es t)
    (hn : (assignEach es X.env).length = n := by rfl) (hst : (assignEach es X.env).findIdx? (·.1) = none := by rfl) : PG X (.Tuple es k pos) (gTup X.K n t) := by
  intro pins s σ H v u Q I r hw
  obtain ⟨a, xs, e1, hq, hl, hw⟩ := hw
  subst e1
  cases r
  obtain ⟨its, rv, ht, hz⟩ := I.tuple hq
  refine assign_Tuple_tuple (I.ok.hd hc) ht (by simp [hn, ← hl, rv.length]) hst fun h' hx => ?_
  have I1 : Inv X pins σ H { s with heap := h' } := I.kept (t' := s.toks) fun b o e => hx b o (Nat.ne_of_lt (Heap.lt_size e)) e
  exact h pins _ σ H xs _ Q I1 (by simpa using rv) hw
def gSub (to ti : TE) (t : TSet) : TG := fun v σ H Q => to σ H fun o H1 => ti σ H1 fun i H2 => t o i v H2 fun H3 => Q σ H3
theorem pg_sub {o i : Expr} {to ti : TE} {t : TSet} (ho : PE X o to) (hi : PE X i ti) (hs : PSet X t)
    (ha : ∀ v, assign (.Subscript o i pos) X.env v = (do
      let ov ← holding [v] (eval o X.env)
      let iv ← holding [v, ov] (eval i X.env)
      standAt pos
      holding [v, ov, iv] (setItem ov iv v)
      release [v, ov, iv] []) := by intro _; rfl) : PG X (.Subscript o i pos) (gSub to ti t) := by
  intro pins s σ H v u Q I r h
  rw [ha]
  refine wpAny_bind (wpAny_holding (thn (ho pins s σ H _ I h) fun ov s1 ⟨x, H1, I1, r1, q1⟩ => ?_))
  refine wpAny_bind (wpAny_holding (thn (hi pins s1 σ H1 _ I1 q1) fun iv s2 ⟨y, H2, I2, r2, q2⟩ => ?_))
  refine wpAny_bind (wpAny_standAt (wpAny_bind (wpAny_holding (thn (hs pins s2 σ H2 x y v ov iv u _ I2 r1 r2 r q2) fun _ s3 ⟨H3, I3, q3⟩ => ?_))))
  exact wpAny_release ⟨σ, H3, I3, q3⟩
def tAsg (te : TE) (g : TG) : TS := fun D σ H => te σ H fun x H1 => g x σ H1 D.nx
theorem ps_asg {tg e : Expr} {te : TE} {g : TG} (he : PE X e te) (hg : PG X tg g) (hs : swapsWithSole [tg] e pos.line X.env = pure false := by rfl) (hw : swappedStores [tg] e X.env = pure none := by rfl)
    (h1 : (assignEach [tg] X.env).map (·.2) = [assign tg X.env] := by rfl) : PS X (.Assign [tg] e pos) (tAsg te g) := by
  intro pins s σ H D I h
  refine wpAny_Assign_stores (thn (he pins s σ H _ I h) fun v s1 ⟨x, H1, I1, r1, q1⟩ => ?_) hs hw
  rw [h1]
  exact thn (hg pins s1 σ H1 x v _ I1 r1 q1) fun _ s2 q => q
theorem ps_set {i : Nat} {x : Str} {e : Expr} {te : TE} {pos' : Pos} (hN : X.N.Nodup) (hi : X.N[i]? = some x) (hx : Loc X.env.scope x) (he : PE X e te) (hs : swapsWith e (some (.Name x pos')) pos.line X.env = pure false := by rfl) (hf : X.fn x = true ∨ X.env.scope.names.lookup x = some .local := by first | exact .inl rfl | exact .inr rfl | assumption) :
    PS X (.Assign [.Name x pos'] e pos) (tAsg te (gName i)) := by
  intro pins s σ H D I h
  refine wpAny_Assign_Name (thn (he pins s σ H _ I h) fun v s1 ⟨y, H1, I1, r1, q1⟩ => ?_) hs
  exact store_ok I1 hN hi hx r1 (fun s2 I2 => ⟨_, H1, I2, q1⟩) hf
def tAug (i : Nat) (te : TE) (ti : TIp) : TS := fun D σ H => ∃ x, σ[i]? = some (some x) ∧ te σ H fun y H1 => ti x y H1 fun z H2 => D.nx (σ.set i (some z)) H2
theorem ps_aug {i : Nat} {x : Str} {e : Expr} {te : TE} {op : Operator} {ti : TIp} {pos' : Pos} (hN : X.N.Nodup) (hi : X.N[i]? = some x) (hx : Loc X.env.scope x) (he : PE X e te) (ho : PIp X op ti) (hf : X.fn x = true ∨ X.env.scope.names.lookup x = some .local := by first | exact .inl rfl | exact .inr rfl | assumption) :
    PS X (.AugAssign (.Name x pos') op e pos) (tAug i te ti) := by
  intro pins s σ H D I h
  obtain ⟨v, e1, h⟩ := h
  obtain ⟨m, hn, hl⟩ := I.loc
  have vis : Vis X.env.scope x := by rcases hx with k | k; exact .inl k; exact .inr (.inl k)
  obtain ⟨u, r, l⟩ := hl i x v hi e1 vis
  refine wpAny_AugAssign_Name ?_
  have go : wpAny (model X.prog X.w) X.A (eval e X.env) (fun w s₂ => wpAny (model X.prog X.w) X.A (inplaceOp op u w) (fun r s₃ => wpAny (model X.prog X.w) X.A (storeName X.env x r) (fun _ => SP X pins D .next) X.xe s₃) X.xe s₂) X.xe s := by
    refine thn (he pins s σ H _ I h) fun w s1 ⟨y, H1, I1, r1, q1⟩ => ?_
    refine thn (ho pins s1 σ H1 v y u w _ I1 r r1 q1) fun z s2 ⟨zv, H2, I2, r2, q2⟩ => ?_
    exact store_ok I2 hN hi hx r2 (fun s3 I3 => ⟨_, H2, I3, q2⟩) hf
  rcases l with ⟨hk, hm⟩ | ⟨hk, c, hc, hcell⟩
  · exact wpAny_loadName_local I.ok.kind hk hn hm go
  · rcases hk with hk | hk
    · exact wpAny_loadName_cell I.ok.kind hk hc hcell go
    · rcases hx with k | k
      · have : X.env.scope.names.lookup x = some .free := hk
        rw [k] at this; cases this
      · have : X.env.scope.names.lookup x = some .free := hk
        rw [k] at this; cases this
end
section
variable {X : Cx} {pos : Pos}
def tWhile (c : TT) (tb : TS) : TS := fun D σ H => ∃ W : Nat → St → Hp → Prop, (∃ m, W m σ H) ∧ ∀ m σ H, W m σ H →
  c σ H fun b H1 => if b = true then ∃ N : St → Hp → Prop, (∀ σ' H', N σ' H' → ∃ m', m' < m ∧ W m' σ' H') ∧ tb { D with nx := N, ct := N, bk := D.nx } σ H1 else D.nx σ H1
theorem ps_while {c : Expr} {body : List Stmt} {tc : TT} {tb : TS} (hp : PassesOwn (model X.prog X.w) X.A X.env X.xe) (hc : PT X c tc) (hb : PSs X body tb) : PS X (.While c body [] pos) (tWhile tc tb) := by
  intro pins s σ H D I h
  obtain ⟨W, ⟨m0, w0⟩, turn⟩ := h
  refine wpAny_While (codeAny_whileLoop (fun n s' => ∃ σ' H', Inv X pins σ' H' s' ∧ W n σ' H') ?_ m0 ⟨σ, H, I, w0⟩)
  rintro n s1 ⟨σ1, H1, I1, w1⟩
  refine wpAny_passesOwn hp (thn (hc pins s1 σ1 H1 _ I1 (turn n σ1 H1 w1)) fun b s2 ⟨H2, I2, q2⟩ => ?_)
  cases b with
  | true =>
    obtain ⟨N, hN, q2⟩ := q2
    rw [if_pos rfl]
    refine wpAny_passesOwn hp (thn (hb pins s2 σ1 H2 _ I2 q2) fun f s3 q3 => ?_)
    cases f with
    | next =>
      obtain ⟨σ3, H3, I3, n3⟩ := q3
      obtain ⟨m', hm, w3⟩ := hN σ3 H3 n3
      exact ⟨m', hm, σ3, H3, I3, w3⟩
    | cont =>
      obtain ⟨σ3, H3, I3, n3⟩ := q3
      obtain ⟨m', hm, w3⟩ := hN σ3 H3 n3
      exact ⟨m', hm, σ3, H3, I3, w3⟩
    | brk => exact q3
    | ret v => exact q3
  | false =>
    rw [if_neg Bool.false_ne_true]
    exact wpAny_execs_nil ⟨σ1, H2, I2, q2⟩
end
structure It where
  go : Nat → Hp → Prop
  yld : Nat → Hp → V → Hp → Prop
  stop : Nat → Hp → Prop
def FpOk (X : Cx) (pins : List (Addr × Obj)) (H : Hp) (b : Addr) : Prop :=
  H b = none ∧ b ≠ X.env.locals ∧ b ∉ X.fs ∧ (b ∈ X.ex ∨ X.s₀.heap.objs.size ≤ b) ∧ (∀ x c, X.env.cells.lookup x = some c → c ≠ b) ∧ ∀ p ∈ X.pn ++ pins, p.1 ≠ b
theorem Inv.fpOk {X : Cx} {pins : List (Addr × Obj)} {σ : St} {H H' : Hp} {s : Shared} {b : Addr} (I : Inv X pins σ H s) (hb : s.heap.objs.size ≤ b) (hn : H' b = none) : FpOk X pins H' b := by
  refine ⟨hn, Nat.ne_of_gt (Nat.lt_of_lt_of_le I.lt hb), I.nofs hb, .inr (Nat.le_trans I.sz hb), fun x c e z => ?_, fun p hp z => ?_⟩
  · obtain ⟨v, q⟩ := I.cell x c e
    exact absurd (Nat.lt_of_lt_of_le q.lt (by rw [z]; exact hb)) (Nat.lt_irrefl _)
  · exact absurd (Nat.lt_of_lt_of_le (Heap.lt_size (I.pin p hp).1) (by rw [z]; exact hb)) (Nat.lt_irrefl _)
structure Turn (P : Program) (w : World) (K : PySem.W.Frag) (tg : Expr) (J : It) (fp : List Addr) (it : Addr) (tn : Nat → Heap → Prop) : Prop where
  mem : it ∈ fp
  obj : ∀ i h, tn i h → ∀ b ∈ fp, ∃ o, h.get? b = some o ∧ ∀ v, o.data ≠ .cell v
  keep : ∀ i h h', tn i h → (∀ b ∈ fp, ∀ o, h.get? b = some o → h'.get? b = some o) → tn i h'
  item : ∀ (X : Cx), X.prog = P → X.w = w → X.K = K → X.calm = true → ∀ (i : Nat) (pins : List (Addr × Obj)) (s : Shared) (σ : St) (H : Hp) (E : Value → Shared → Prop), Inv X pins σ H s → (∀ b ∈ fp, FpOk X pins H b) → tn i s.heap → J.go i H →
    wpAny (model P w) X.A (pyNext (.ref it)) (fun r s1 => ∃ u, r = some u ∧
      wpAny (model P w) X.A (letOwnedTupleGo tg (.ref it) u) (fun _ s2 => ∃ x H', Inv X pins σ H' s2 ∧ RelV x u ∧ J.yld i H x H' ∧ tn (i + 1) s2.heap ∧ ∀ b ∈ fp, H' b = none) E s1) E s
  done : ∀ (X : Cx), X.prog = P → X.w = w → X.K = K → X.calm = true → ∀ (i : Nat) (pins : List (Addr × Obj)) (s : Shared) (σ : St) (H : Hp) (E : Value → Shared → Prop), Inv X pins σ H s → (∀ b ∈ fp, FpOk X pins H b) → tn i s.heap → J.stop i H →
    wpAny (model P w) X.A (pyNext (.ref it)) (fun r s1 => r = none ∧ Inv X pins σ H s1) E s
  self : ∀ (A : Around) (i : Nat) (s : Shared) (Q : Value → Shared → Prop) (E : Value → Shared → Prop), tn i s.heap → Q (.ref it) s → wpAny (model P w) A (pyIter (.ref it)) Q E s
abbrev TI := St → Hp → (It → Hp → Prop) → Prop
def PIE (X : Cx) (pins : List (Addr × Obj)) (σ : St) (tg : Expr) (R : It → Hp → Prop) (itv : Value) (s2 : Shared) : Prop :=
  ∃ (it : Addr) (fp : List Addr) (tn : Nat → Heap → Prop) (J : It) (H' : Hp), itv = .ref it ∧ Inv X pins σ H' s2 ∧ Turn X.prog X.w X.K tg J fp it tn ∧ tn 0 s2.heap ∧ (∀ b ∈ fp, FpOk X pins H' b) ∧ R J H'
def PI (X : Cx) (tg iter : Expr) (wi : TI) : Prop :=
  ∀ (pins : List (Addr × Obj)) (s : Shared) (σ : St) (H : Hp) (R : It → Hp → Prop), Inv X pins σ H s → wi σ H R →
    wpAny (model X.prog X.w) X.A (eval iter X.env) (fun v s1 => wpAny (model X.prog X.w) X.A (pyIter v) (PIE X pins σ tg R) X.xe s1) X.xe s
theorem go_of {M : Model} {A : Around} {E : Value → Shared → Prop} {s : Shared} {tg : Expr} {it : Addr} {u : Value} {o : Obj} {n : String} {vs : Array Value} {Q : Unit → Shared → Prop} (ho : s.heap.get? it = some o) (hc : o.cls = .type n) (hd : o.data = .fields vs)
    (hn : ["enumerate", "zip", "dict_itemiterator", "dict_reverseitemiterator", "odict_iterator", "itertools.zip_longest", "itertools.pairwise"].contains n = false) (hQ : Q () s) : wpAny M A (letOwnedTupleGo tg (.ref it) u) Q E s := by
  unfold letOwnedTupleGo
  cases tg <;> first
    | exact wpAny_pure hQ
    | (cases u <;> first
        | exact wpAny_pure hQ
        | (refine wpAny_bind (wpAny_load ho ?_)
           rw [hc, hd]
           show wpAny M A (if (["enumerate", "zip", "dict_itemiterator", "dict_reverseitemiterator", "odict_iterator", "itertools.zip_longest", "itertools.pairwise"].contains n && vs[0]? == some (rawInt _)) = true then _ else _) Q E s
           rw [if_neg (by intro h; rw [hn, Bool.false_and] at h; cases h)]
           exact wpAny_pure hQ))
def Itl (K : PySem.W.Frag) (a : Addr) : It :=
  ⟨fun i H => ∃ xs x, SqL K H a xs ∧ xs[i]? = some x, fun i H x H' => H' = H ∧ ∀ xs, SqL K H a xs → xs[i]? = some x, fun i H => ∃ xs, SqL K H a xs ∧ xs.length ≤ i⟩
def Itt (K : PySem.W.Frag) (a : Addr) : It :=
  ⟨fun i H => ∃ xs x, SqT K H a xs ∧ xs[i]? = some x, fun i H x H' => H' = H ∧ ∀ xs, SqT K H a xs → xs[i]? = some x, fun i H => ∃ xs, SqT K H a xs ∧ xs.length ≤ i⟩
def Itr (lo : Int) (n : Nat) : It := ⟨fun i _ => i < n, fun i H x H' => H' = H ∧ x = .int (lo + i), fun i _ => n ≤ i⟩
theorem turn_list {P : Program} {w : World} {K : PySem.W.Frag} {tg : Expr} (a it : Addr) : Turn P w K tg (Itl K a) [it] it (fun i h => h.IsListIter it a i) where
  mem := by simp
  obj := fun i h st b hb => by
    have e : b = it := by simpa using hb
    subst e
    obtain ⟨o, e, c, d⟩ := st
    exact ⟨o, e, fun v z => by rw [d] at z; cases z⟩
  keep := fun i h h' st k => st.at fun o e => k it (by simp) o e
  item := by
    intro X hP hw hK hc i pins s σ H E I hf st hg
    subst hP hw hK
    obtain ⟨xs, x, hq, hx⟩ := hg
    obtain ⟨its, rv, p, hz⟩ := I.list hq
    obtain ⟨u, hu, ru⟩ := rv.get hx
    obtain ⟨f0, f1, f2, f3, f4, f5⟩ := hf it (by simp)
    refine wpAny_pyNext_list_item st p.isList (x := u) (by simpa using hu) fun h' st' sb => ?_
    have I1 : Inv X pins σ H { s with heap := h' } := I.turned (t' := s.toks) (fun b o hb e => (sb.2 b hb).trans e) f0 f1 f3 f4 f5
    obtain ⟨o, e, c, d⟩ := id st'
    exact ⟨u, rfl, go_of (s := { s with heap := h' }) e c d (by decide) ⟨x, H, I1, ru, ⟨rfl, fun ys hy => by rw [I.list_inj hy hq]; exact hx⟩, st', fun b hb => (hf b hb).1⟩⟩
  done := by
    intro X hP hw hK hc i pins s σ H E I hf st hg
    subst hP hw hK
    obtain ⟨xs, hq, hx⟩ := hg
    obtain ⟨its, rv, p, hz⟩ := I.list hq
    obtain ⟨f0, f1, f2, f3, f4, f5⟩ := hf it (by simp)
    have hl := rv.length
    exact wpAny_pyNext_list_end (I.ok.hd hc) st p.isList (by simp; omega) fun h' eb => ⟨rfl, I.turned (t' := s.toks) (fun b o hb e => eb b o hb e) f0 f1 f3 f4 f5⟩
  self := fun _ _ _ _ _ st h => wpAny_pyIter_listiter st h
theorem turn_tuple {P : Program} {w : World} {K : PySem.W.Frag} {tg : Expr} (a it : Addr) : Turn P w K tg (Itt K a) [it] it (fun i h => h.IsTupleIter it a i) where
  mem := by simp
  obj := fun i h st b hb => by
    have e : b = it := by simpa using hb
    subst e
    obtain ⟨o, e, c, d⟩ := st
    exact ⟨o, e, fun v z => by rw [d] at z; cases z⟩
  keep := fun i h h' st k => st.at fun o e => k it (by simp) o e
  item := by
    intro X hP hw hK hc i pins s σ H E I hf st hg
    subst hP hw hK
    obtain ⟨xs, x, hq, hx⟩ := hg
    obtain ⟨its, rv, p, hz⟩ := I.tuple hq
    obtain ⟨u, hu, ru⟩ := rv.get hx
    obtain ⟨f0, f1, f2, f3, f4, f5⟩ := hf it (by simp)
    refine wpAny_pyNext_tuple_item st (show s.heap.IsTuple a its.toArray from p) (x := u) (by simpa using hu) fun h' st' sb => ?_
    have I1 : Inv X pins σ H { s with heap := h' } := I.turned (t' := s.toks) (fun b o hb e => (sb.2 b hb).trans e) f0 f1 f3 f4 f5
    obtain ⟨o, e, c, d⟩ := id st'
    exact ⟨u, rfl, go_of (s := { s with heap := h' }) e c d (by decide) ⟨x, H, I1, ru, ⟨rfl, fun ys hy => by rw [I.tuple_inj hy hq]; exact hx⟩, st', fun b hb => (hf b hb).1⟩⟩
  done := by
    intro X hP hw hK hc i pins s σ H E I hf st hg
    subst hP hw hK
    obtain ⟨xs, hq, hx⟩ := hg
    obtain ⟨its, rv, p, hz⟩ := I.tuple hq
    obtain ⟨f0, f1, f2, f3, f4, f5⟩ := hf it (by simp)
    have hl := rv.length
    exact wpAny_pyNext_tuple_end (I.ok.hd hc) st (show s.heap.IsTuple a its.toArray from p) (by simp; omega) fun h' eb => ⟨rfl, I.turned (t' := s.toks) (fun b o hb e => eb b o hb e) f0 f1 f3 f4 f5⟩
  self := fun _ _ _ _ _ st h => wpAny_pyIter_tupleiter st h
theorem turn_range {P : Program} {w : World} {K : PySem.W.Frag} {tg : Expr} (it : Addr) (lo : Int) (n : Nat) : Turn P w K tg (Itr lo n) [it] it (fun i h => IsRangeIter h it (lo + (i : Nat) * 1) ((n : Int) - (i : Nat)) 1) where
  mem := by simp
  obj := fun i h st b hb => by
    have e : b = it := by simpa using hb
    subst e
    exact ⟨_, st, fun v z => by
      have z' : Data.fields _ = Data.cell v := z
      cases z'⟩
  keep := fun i h h' st k => k it (by simp) _ st
  item := by
    intro X hP hw hK hc i pins s σ H E I hf st hg
    subst hP hw hK
    obtain ⟨f0, f1, f2, f3, f4, f5⟩ := hf it (by simp)
    have W := Walks.range (prog := X.prog) (w := X.w) (I.ok.hd hc) it lo 1 n
    refine W.item i s _ _ hg st fun v h' tk hv st' kk => ?_
    obtain ⟨t, rfl⟩ := hv
    have I1 : Inv X pins σ H { s with heap := h', toks := tk } := I.turned (fun b o hb e => kk b o (by simpa using hb) e) f0 f1 f3 f4 f5
    refine ⟨_, rfl, go_of (s := { s with heap := h', toks := tk }) (n := "range_iterator") st' rfl rfl (by decide) ⟨.int (lo + i), H, I1, ⟨t, ?_⟩, ⟨rfl, rfl⟩, st', fun b hb => (hf b hb).1⟩⟩
    rw [Int.mul_one]
  done := by
    intro X hP hw hK hc i pins s σ H E I hf st hg
    subst hP hw hK
    obtain ⟨f0, f1, f2, f3, f4, f5⟩ := hf it (by simp)
    exact wpAny_pyNext_range_end (I.ok.hd hc) st (by have : n ≤ i := hg; omega) fun h' eb => ⟨rfl, I.turned (t' := s.toks) (fun b o hb e => eb b o hb e) f0 f1 f3 f4 f5⟩
  self := fun _ _ _ _ _ st h => wpAny_pyIter_rangeiter st h
end L2
namespace L2
open PySem PySem.Spec PyProof.Rows
section
variable {X : Cx} {tg : Expr}
def iTup (K : PySem.W.Frag) (tl : TE) : TI := fun σ H R => tl σ H fun x H1 => ∃ a, x = .ref a ∧ (∃ xs, SqT K H1 a xs) ∧ R (Itt K a) H1
theorem pi_tup {l : Expr} {tl : TE} (hl : PE X l tl) : PI X tg l (iTup X.K tl) := by
  intro pins s σ H R I h
  refine thn (hl pins s σ H _ I h) fun v s1 ⟨x, H1, I1, r1, q1⟩ => ?_
  obtain ⟨a, e, ⟨xs, hq⟩, q⟩ := q1
  subst e
  cases r1
  obtain ⟨its, rv, p, hz⟩ := I1.tuple hq
  refine wpAny_pyIter_tuple (show s1.heap.IsTuple a its.toArray from p) ?_
  refine ⟨s1.heap.objs.size, [s1.heap.objs.size], _, _, H1, rfl, I1.kept (t' := s1.toks) fun b o e => Heap.get?_push_of_some _ e, turn_tuple a _, ⟨_, Heap.get?_push_size _ rfl, rfl, rfl⟩, fun b hb => ?_, q⟩
  have e : b = s1.heap.objs.size := by simpa using hb
  subst e
  exact I1.fpOk (Nat.le_refl _) (I1.hok.fresh (Nat.le_refl _))
theorem range_it {pins : List (Addr × Obj)} {σ : St} {H : Hp} {s : Shared} {R : It → Hp → Prop} {E : Value → Shared → Prop} {lo hi : Int} {t u v : Tok} {tk : Nat} (I : Inv X pins σ H s) (h1 : -(2 ^ 62) ≤ lo) (h2 : lo < 2 ^ 62) (h3 : -(2 ^ 62) ≤ hi) (h4 : hi < 2 ^ 62)
    (q : R (Itr lo (hi - lo).toNat) H) : wpAny (model X.prog X.w) X.A (pyIter (.ref s.heap.objs.size)) (PIE X pins σ tg R) E { s with heap := s.heap.push { cls := .type "range", data := .fields #[.int lo t, .int hi u, .int 1 v] }, toks := tk } := by
  refine wpAny_pyIter_range (IsRange.new ..) (small_one h1 h2 h3 h4) ?_
  have I1 : Inv X pins σ H { s with heap := s.heap.push { cls := .type "range", data := .fields #[.int lo t, .int hi u, .int 1 v] }, toks := tk } := I.kept fun b o e => Heap.get?_push_of_some _ e
  refine ⟨(s.heap.push { cls := .type "range", data := .fields #[.int lo t, .int hi u, .int 1 v] }).objs.size, [(s.heap.push { cls := .type "range", data := .fields #[.int lo t, .int hi u, .int 1 v] }).objs.size], _, _, H, rfl,
    I1.kept (t' := tk) fun b o e => Heap.get?_push_of_some _ e, turn_range _ lo (hi - lo).toNat, ?_, fun b hb => ?_, q⟩
  · have e1 : lo + ((0 : Nat) : Int) * 1 = lo := by simp
    have e2 : (((hi - lo).toNat : Nat) : Int) - ((0 : Nat) : Int) = Builtin.Range.rangeSize lo hi 1 := by rw [rangeSize_one]; split <;> omega
    show IsRangeIter _ _ (lo + ((0 : Nat) : Int) * 1) ((((hi - lo).toNat : Nat) : Int) - ((0 : Nat) : Int)) 1
    rw [e1, e2]
    exact Heap.get?_push_size _ rfl
  · have e : b = (s.heap.push { cls := .type "range", data := .fields #[.int lo t, .int hi u, .int 1 v] }).objs.size := by simpa using hb
    subst e
    exact I1.fpOk (Nat.le_refl _) (I1.hok.fresh (Nat.le_refl _))
def iRng1 (ta : TA) : TI := fun σ H R => ta σ H fun vs H1 => ∃ j : Int, vs = [.int j] ∧ -(2 ^ 62) ≤ j ∧ j < 2 ^ 62 ∧ R (Itr 0 j.toNat) H1
theorem pi_range1 {a : Expr} {ta : TA} {p pos : Pos} (hg : Gl X "range") (hm : X.mg "range" = none) (ha : PA X [a] ta) (hs : starEach [a] X.env = [(false, eval a X.env)] := by rfl) : PI X tg (.Call (.Name "range" p) [a] [] pos) (iRng1 ta) := by
  intro pins s σ H R I h
  refine Call_ (ld_blt I hg hm boot_range (PyProof.Rows.callWith_type1 (thn (ha pos pins s σ H _ I h) fun us s1 ⟨vs, H1, I1, r1, q1⟩ => ?_) hs rfl))
  obtain ⟨j, e, q1, q2, q⟩ := q1
  subst e
  cases r1 with
  | cons r rr =>
    cases rr
    obtain ⟨t, rfl⟩ := r
    exact call_range_1 (range_it I1 (by omega) (by omega) q1 q2 (by simpa using q))
def tFor (wi : TI) (g : TG) (tb : TS) : TS := fun D σ H => wi σ H fun J H1 => ∃ W : Nat → Nat → St → Hp → Prop, (∃ m, W 0 m σ H1) ∧ ∀ i m σ H, W i m σ H →
  (J.stop i H ∧ D.nx σ H) ∨ (J.go i H ∧ ∃ N : St → Hp → Prop, (∀ σ' H', N σ' H' → ∃ m', m' < m ∧ W (i + 1) m' σ' H') ∧ ∀ x H', J.yld i H x H' → g x σ H' fun σ2 H2 => tb { D with nx := N, ct := N, bk := D.nx } σ2 H2)
def pinsAt (fp : List Addr) (h : Heap) : List (Addr × Obj) := fp.filterMap fun b => (h.get? b).map fun o => (b, o)
theorem mem_pinsAt {fp : List Addr} {h : Heap} {b : Addr} {o : Obj} (hb : b ∈ fp) (e : h.get? b = some o) : (b, o) ∈ pinsAt fp h := List.mem_filterMap.mpr ⟨b, hb, by rw [e]; rfl⟩
theorem of_pinsAt {fp : List Addr} {h : Heap} {p : Addr × Obj} (hp : p ∈ pinsAt fp h) : p.1 ∈ fp ∧ h.get? p.1 = some p.2 := by
  obtain ⟨b, hb, e⟩ := List.mem_filterMap.mp hp
  cases q : h.get? b with
  | none => rw [q] at e; cases e
  | some o =>
    rw [q] at e
    have e' : (b, o) = p := Option.some.inj e
    subst e'
    exact ⟨hb, q⟩
theorem Inv.pinned {pins : List (Addr × Obj)} {σ : St} {H : Hp} {s : Shared} {fp : List Addr} (I : Inv X pins σ H s) (hf : ∀ b ∈ fp, FpOk X pins H b) (ho : ∀ b ∈ fp, ∃ o, s.heap.get? b = some o ∧ ∀ v, o.data ≠ .cell v) : Inv X (pins ++ pinsAt fp s.heap) σ H s :=
  I.pins_of fun p hp => (List.mem_append.mp hp).elim (fun z => I.pin p (List.mem_append_right _ z)) fun z => by
    obtain ⟨hb, e⟩ := of_pinsAt z
    obtain ⟨f0, f1, f2, _⟩ := hf p.1 hb
    obtain ⟨o, e', d⟩ := ho p.1 hb
    rw [e] at e'; cases e'
    exact ⟨e, f0, f1, f2, d⟩
theorem Inv.unpinned {pins pl : List (Addr × Obj)} {σ : St} {H : Hp} {s : Shared} (I : Inv X (pins ++ pl) σ H s) : Inv X pins σ H s := I.pins_of fun p hp => I.pin p (List.mem_append_right _ (List.mem_append_left _ hp))
theorem ps_for {iter : Expr} {body : List Stmt} {wi : TI} {g : TG} {tb : TS} {pos : Pos} (hp : PassesOwn (model X.prog X.w) X.A X.env X.xe) (hc : X.calm = true) (hi : PI X tg iter wi) (hg : PG X tg g) (hb : PSs X body tb)
    (hs : ∀ x, foldedSetIterable iter X.env x = pure x := by intro _; rfl) : PS X (.For tg iter body [] pos) (tFor wi g tb) := by
  intro pins s σ H D I h
  refine wpAny_For (thn (hi pins s σ H _ I h) fun v s1 h1 => thn h1 fun itv s2 h2 => ?_) hs
  obtain ⟨it, fp, tn, J, H2, e, I2, T, st2, f2, W, ⟨m0, w0⟩, turn⟩ := h2
  subst e
  have stat : ∀ {H' : Hp}, (∀ b ∈ fp, H' b = none) → ∀ b ∈ fp, FpOk X pins H' b := fun hn b hb => ⟨hn b hb, (f2 b hb).2⟩
  refine codeAny_forLoop_any (fun n s' => ∃ i σ' H', Inv X pins σ' H' s' ∧ tn i s'.heap ∧ (∀ b ∈ fp, H' b = none) ∧ W i n σ' H') ?_ m0 ⟨0, σ, H2, I2, st2, fun b hb => (f2 b hb).1, w0⟩
  rintro n s3 ⟨i, σ3, H3, I3, st3, fr3, w3⟩
  rcases turn i n σ3 H3 w3 with ⟨stop, qn⟩ | ⟨go, N, hN, step⟩
  · refine wpAny_passesOwn hp (thn (T.done X rfl rfl rfl hc i pins s3 σ3 H3 X.xe I3 (stat fr3) st3 stop) fun r s4 ⟨hr, I4⟩ => ?_)
    subst hr
    exact wpAny_execs_nil ⟨σ3, H3, I4, qn⟩
  · refine wpAny_passesOwn hp (thn (T.item X rfl rfl rfl hc i pins s3 σ3 H3 X.xe I3 (stat fr3) st3 go) fun r s4 ⟨u, hr, h4⟩ => ?_)
    subst hr
    refine wpAny_passesOwn hp (thn h4 fun _ s5 ⟨x, H5, I5, r5, y5, st5, fr5⟩ => ?_)
    have I5' := I5.pinned (stat fr5) (T.obj _ _ st5)
    refine wpAny_passesOwn hp (thn (hg _ s5 σ3 H5 x u _ I5' r5 (step x H5 y5)) fun _ s6 ⟨σ6, H6, I6, q6⟩ => ?_)
    refine wpAny_passesOwn hp (thn (hb _ s6 σ6 H6 _ I6 q6) fun f s7 q7 => ?_)
    have again : ∀ {σ7 : St} {H7 : Hp}, Inv X (pins ++ pinsAt fp s5.heap) σ7 H7 s7 → N σ7 H7 → ∃ m, m < n ∧ ∃ i σ' H', Inv X pins σ' H' s7 ∧ tn i s7.heap ∧ (∀ b ∈ fp, H' b = none) ∧ W i m σ' H' := fun {σ7 H7} I7 n7 => by
      obtain ⟨m', hm, w7⟩ := hN σ7 H7 n7
      refine ⟨m', hm, i + 1, σ7, H7, I7.unpinned, T.keep _ _ _ st5 fun b hb o e => (I7.pin (b, o) (List.mem_append_right _ (List.mem_append_right _ (mem_pinsAt hb e)))).1, fun b hb => ?_, w7⟩
      obtain ⟨o, e, d⟩ := T.obj _ _ st5 b hb
      exact (I7.pin (b, o) (List.mem_append_right _ (List.mem_append_right _ (mem_pinsAt hb e)))).2.1
    cases f with
    | next => obtain ⟨σ7, H7, I7, n7⟩ := q7; exact again I7 n7
    | cont => obtain ⟨σ7, H7, I7, n7⟩ := q7; exact again I7 n7
    | brk => obtain ⟨σ7, H7, I7, q7⟩ := q7; exact ⟨σ7, H7, I7.unpinned, q7⟩
    | ret v => obtain ⟨x7, σ7, H7, I7, r7, q7⟩ := q7; exact ⟨x7, σ7, H7, I7.unpinned, r7, q7⟩
end
theorem for_list {K : PySem.W.Frag} {a : Addr} {xs : List V} {g : TG} {tb : TS} {D : Ends} {σ : St} {H : Hp} (Pv : Nat → St → Hp → Prop) (h0 : Pv 0 σ H) (hl : ∀ i σ H, i ≤ xs.length → Pv i σ H → SqL K H a xs)
    (hs : ∀ i x σ H, xs[i]? = some x → Pv i σ H → g x σ H fun σ2 H2 => tb { D with nx := Pv (i + 1), ct := Pv (i + 1), bk := D.nx } σ2 H2) (hd : ∀ σ H, Pv xs.length σ H → D.nx σ H) :
    ∃ W : Nat → Nat → St → Hp → Prop, (∃ m, W 0 m σ H) ∧ ∀ i m σ H, W i m σ H →
      ((Itl K a).stop i H ∧ D.nx σ H) ∨ ((Itl K a).go i H ∧ ∃ N : St → Hp → Prop, (∀ σ' H', N σ' H' → ∃ m', m' < m ∧ W (i + 1) m' σ' H') ∧ ∀ x H', (Itl K a).yld i H x H' → g x σ H' fun σ2 H2 => tb { D with nx := N, ct := N, bk := D.nx } σ2 H2) := by
  refine ⟨fun i m σ H => m = xs.length - i ∧ i ≤ xs.length ∧ Pv i σ H, ⟨xs.length, by simp, Nat.zero_le _, h0⟩, ?_⟩
  rintro i m σ H ⟨rfl, hi, p⟩
  have q := hl i σ H hi p
  by_cases hlt : i < xs.length
  · refine .inr ⟨⟨xs, xs[i], q, by simp [hlt]⟩, Pv (i + 1), fun σ' H' p' => ⟨xs.length - (i + 1), by omega, rfl, hlt, p'⟩, fun x H' y => ?_⟩
    obtain ⟨e, y⟩ := y
    subst e
    exact hs i x σ _ (y xs q) p
  · have e : i = xs.length := by omega
    subst e
    exact .inl ⟨⟨xs, q, Nat.le_refl _⟩, hd σ H p⟩
theorem for_tup {K : PySem.W.Frag} {a : Addr} {xs : List V} {g : TG} {tb : TS} {D : Ends} {σ : St} {H : Hp} (Pv : Nat → St → Hp → Prop) (h0 : Pv 0 σ H) (hl : ∀ i σ H, i ≤ xs.length → Pv i σ H → SqT K H a xs)
    (hs : ∀ i x σ H, xs[i]? = some x → Pv i σ H → g x σ H fun σ2 H2 => tb { D with nx := Pv (i + 1), ct := Pv (i + 1), bk := D.nx } σ2 H2) (hd : ∀ σ H, Pv xs.length σ H → D.nx σ H) :
    ∃ W : Nat → Nat → St → Hp → Prop, (∃ m, W 0 m σ H) ∧ ∀ i m σ H, W i m σ H →
      ((Itt K a).stop i H ∧ D.nx σ H) ∨ ((Itt K a).go i H ∧ ∃ N : St → Hp → Prop, (∀ σ' H', N σ' H' → ∃ m', m' < m ∧ W (i + 1) m' σ' H') ∧ ∀ x H', (Itt K a).yld i H x H' → g x σ H' fun σ2 H2 => tb { D with nx := N, ct := N, bk := D.nx } σ2 H2) := by
  refine ⟨fun i m σ H => m = xs.length - i ∧ i ≤ xs.length ∧ Pv i σ H, ⟨xs.length, by simp, Nat.zero_le _, h0⟩, ?_⟩
  rintro i m σ H ⟨rfl, hi, p⟩
  have q := hl i σ H hi p
  by_cases hlt : i < xs.length
  · refine .inr ⟨⟨xs, xs[i], q, by simp [hlt]⟩, Pv (i + 1), fun σ' H' p' => ⟨xs.length - (i + 1), by omega, rfl, hlt, p'⟩, fun x H' y => ?_⟩
    obtain ⟨e, y⟩ := y
    subst e
    exact hs i x σ _ (y xs q) p
  · have e : i = xs.length := by omega
    subst e
    exact .inl ⟨⟨xs, q, Nat.le_refl _⟩, hd σ H p⟩
theorem for_range {lo : Int} {n : Nat} {g : TG} {tb : TS} {D : Ends} {σ : St} {H : Hp} (Pv : Nat → St → Hp → Prop) (h0 : Pv 0 σ H)
    (hs : ∀ i σ H, i < n → Pv i σ H → g (.int (lo + i)) σ H fun σ2 H2 => tb { D with nx := Pv (i + 1), ct := Pv (i + 1), bk := D.nx } σ2 H2) (hd : ∀ σ H, Pv n σ H → D.nx σ H) :
    ∃ W : Nat → Nat → St → Hp → Prop, (∃ m, W 0 m σ H) ∧ ∀ i m σ H, W i m σ H →
      ((Itr lo n).stop i H ∧ D.nx σ H) ∨ ((Itr lo n).go i H ∧ ∃ N : St → Hp → Prop, (∀ σ' H', N σ' H' → ∃ m', m' < m ∧ W (i + 1) m' σ' H') ∧ ∀ x H', (Itr lo n).yld i H x H' → g x σ H' fun σ2 H2 => tb { D with nx := N, ct := N, bk := D.nx } σ2 H2) := by
  refine ⟨fun i m σ H => m = n - i ∧ i ≤ n ∧ Pv i σ H, ⟨n, by simp, Nat.zero_le _, h0⟩, ?_⟩
  rintro i m σ H ⟨rfl, hi, p⟩
  by_cases hlt : i < n
  · refine .inr ⟨hlt, Pv (i + 1), fun σ' H' p' => ⟨n - (i + 1), by omega, rfl, hlt, p'⟩, fun x H' y => ?_⟩
    obtain ⟨e, y⟩ := y
    subst e y
    exact hs i σ _ hlt p
  · have e : i = n := by omega
    subst e
    exact .inl ⟨Nat.le_refl _, hd σ H p⟩
end L2
namespace L2
open PySem PySem.Spec PyProof.Rows
abbrev R2 := V → V → Hp → VK → Prop
def OpR (X : Cx) (f : Value → Value → Sem Value) (r : R2) : Prop :=
  ∀ (pins : List (Addr × Obj)) (s : Shared) (σ : St) (H : Hp) (x y : V) (v u : Value) (Q : VK), Inv X pins σ H s → RelV x v → RelV y u → r x y H Q →
    wpAny (model X.prog X.w) X.A (f v u) (EP X pins σ Q) X.xe s
def UnR (X : Cx) (f : Value → Sem Value) (r : V → Hp → VK → Prop) : Prop :=
  ∀ (pins : List (Addr × Obj)) (s : Shared) (σ : St) (H : Hp) (x : V) (v : Value) (Q : VK), Inv X pins σ H s → RelV x v → r x H Q →
    wpAny (model X.prog X.w) X.A (f v) (EP X pins σ Q) X.xe s
def CallR (X : Cx) (f : Value) (r : List V → Hp → VK → Prop) : Prop :=
  ∀ (pins : List (Addr × Obj)) (s : Shared) (σ : St) (H : Hp) (xs : List V) (us : List Value) (Q : VK), Inv X pins σ H s → Vals xs us → r xs H Q →
    wpAny (model X.prog X.w) X.A (call f us) (EP X pins σ Q) X.xe s
def tOp (r : R2) (ta tb : TE) : TE := fun σ H Q => ta σ H fun x H1 => tb σ H1 fun y H2 => r x y H2 Q
def tUn (r : V → Hp → VK → Prop) (ta : TE) : TE := fun σ H Q => ta σ H fun x H1 => r x H1 Q
def rI (C : Int → Int → Prop) (g : Int → Int → V) : R2 := fun x y H Q => ∃ i j, x = .int i ∧ y = .int j ∧ C i j ∧ Q (g i j) H
def rI0 (g : Int → Int → V) : R2 := fun x y H Q => ∃ i j, x = .int i ∧ y = .int j ∧ Q (g i j) H
def rU (g : Int → V) : V → Hp → VK → Prop := fun x H Q => ∃ i, x = .int i ∧ Q (g i) H
section
variable {X : Cx} {a b c : Expr} {ta tb tc : TE} {pos : Pos}
theorem binT (ha : PE X a ta) (hb : PE X b tb) {pins : List (Addr × Obj)} {s : Shared} {σ : St} {H : Hp} {R : V → V → Hp → Prop} (I : Inv X pins σ H s)
    (h : ta σ H fun x H1 => tb σ H1 fun y H2 => R x y H2) {Q : Value → Shared → Prop} {f : Value → Value → Sem Value}
    (hf : ∀ v u s2 x y H2, Inv X pins σ H2 s2 → RelV x v → RelV y u → R x y H2 → wpAny (model X.prog X.w) X.A (f v u) Q X.xe s2) :
    wpAny (model X.prog X.w) X.A (eval a X.env) (fun v s₁ => wpAny (model X.prog X.w) X.A (eval b X.env) (fun u s₂ => wpAny (model X.prog X.w) X.A (f v u) Q X.xe s₂) X.xe s₁) X.xe s := by
  refine thn (ha pins s σ H _ I h) fun v s1 ⟨x, H1, I1, r1, q1⟩ => ?_
  refine thn (hb pins s1 σ H1 _ I1 q1) fun u s2 ⟨y, H2, I2, r2, q2⟩ => ?_
  exact hf v u s2 x y H2 I2 r1 r2 q2
theorem pe_op {op : Operator} {r : R2} (ho : OpR X (binaryOp op) r) (ha : PE X a ta) (hb : PE X b tb) : PE X (.BinOp a op b pos) (tOp r ta tb) := by
  intro pins s σ H Q I h
  exact wpAny_BinOp (binT ha hb I h fun v u s2 x y H2 I2 rx ry q => ho pins s2 σ H2 x y v u Q I2 rx ry q)
theorem pe_un {op : UnaryOp} {r : V → Hp → VK → Prop} (ho : UnR X (unaryOp op) r) (ha : PE X a ta) : PE X (.UnaryOp op a pos) (tUn r ta) := by
  intro pins s σ H Q I h
  exact UnaryOp_ (thn (ha pins s σ H _ I h) fun v s1 ⟨x, H1, I1, r1, q1⟩ => ho pins s1 σ H1 x v Q I1 r1 q1)
theorem opI {f : Value → Value → Sem Value} {C : Int → Int → Prop} {g : Int → Int → Int}
    (rule : ∀ (i j : Int) (t u : Tok) (s : Shared) (Q : Value → Shared → Prop) (E : Value → Shared → Prop), C i j → Q (.int (g i j) s.toks) { s with toks := s.toks + 1 } → wpAny (model X.prog X.w) X.A (f (.int i t) (.int j u)) Q E s) :
    OpR X f (rI C fun i j => .int (g i j)) := by
  intro pins s σ H x y v u Q I rx ry h
  obtain ⟨i, j, rfl, rfl, hc, q⟩ := h
  obtain ⟨t, rfl⟩ := rx
  obtain ⟨t', rfl⟩ := ry
  exact rule i j t t' s _ _ hc ⟨.int (g i j), H, I.tok _, ⟨_, rfl⟩, q⟩
theorem opI0 {f : Value → Value → Sem Value} {g : Int → Int → Int}
    (rule : ∀ (i j : Int) (t u : Tok) (s : Shared) (Q : Value → Shared → Prop) (E : Value → Shared → Prop), Q (.int (g i j) s.toks) { s with toks := s.toks + 1 } → wpAny (model X.prog X.w) X.A (f (.int i t) (.int j u)) Q E s) :
    OpR X f (rI0 fun i j => .int (g i j)) := by
  intro pins s σ H x y v u Q I rx ry h
  obtain ⟨i, j, rfl, rfl, q⟩ := h
  obtain ⟨t, rfl⟩ := rx
  obtain ⟨t', rfl⟩ := ry
  exact rule i j t t' s _ _ ⟨.int (g i j), H, I.tok _, ⟨_, rfl⟩, q⟩
theorem opB0 {f : Value → Value → Sem Value} {g : Int → Int → Bool}
    (rule : ∀ (i j : Int) (t u : Tok) (s : Shared) (Q : Value → Shared → Prop) (E : Value → Shared → Prop), Q (.bool (g i j)) s → wpAny (model X.prog X.w) X.A (f (.int i t) (.int j u)) Q E s) :
    OpR X f (rI0 fun i j => .bl (g i j)) := by
  intro pins s σ H x y v u Q I rx ry h
  obtain ⟨i, j, rfl, rfl, q⟩ := h
  obtain ⟨t, rfl⟩ := rx
  obtain ⟨t', rfl⟩ := ry
  exact rule i j t t' s _ _ ⟨.bl (g i j), H, I, rfl, q⟩
def CPow (i j : Int) : Prop := 0 ≤ j ∧ j ≤ 1000000 ∧ i.natAbs < 2 ^ 64
def CMul (i j : Int) : Prop := (-(2 ^ 64) < i ∧ i < 2 ^ 64) ∨ (-(2 ^ 64) < j ∧ j < 2 ^ 64)
theorem CMul.ok {i j : Int} (h : CMul i j) : IntMulOk i j := by
  rcases h with ⟨h1, h2⟩ | ⟨h1, h2⟩
  · exact .of_left (intBits_le_64 h1 h2)
  · exact .of_right (intBits_le_64 h1 h2)
theorem two_pow_nn (k : Nat) : (0 : Int) ≤ 2 ^ k := by
  rw [two_pow_cast]
  exact Int.natCast_nonneg _
theorem op_add : OpR X (binaryOp .Add) (rI0 fun i j => .int (i + j)) := opI0 fun _ _ _ _ _ _ _ q => add_int q
theorem op_sub : OpR X (binaryOp .Sub) (rI0 fun i j => .int (i - j)) := opI0 fun _ _ _ _ _ _ _ q => sub_int q
theorem op_mul : OpR X (binaryOp .Mult) (rI CMul fun i j => .int (i * j)) := opI fun _ _ _ _ _ _ _ hc q => mul_int q hc.ok
theorem op_mod : OpR X (binaryOp .Mod) (rI (fun _ j => 0 < j) fun i j => .int (i % j)) := opI fun i j _ _ _ _ _ hc q => by
  have h1 : (0 : Int) < j := hc
  exact mod_int' (by omega) (by rw [Int.fmod_eq_emod_of_nonneg i (by omega)]; exact q)
theorem op_shl : OpR X (binaryOp .LShift) (rI CPow fun i j => .int (i * 2 ^ j.toNat)) := opI fun _ _ _ _ _ _ _ hc q => lshift_int_small hc.1 hc.2.1 hc.2.2 q
theorem op_shr : OpR X (binaryOp .RShift) (rI (fun _ j => 0 ≤ j) fun i j => .int (i / 2 ^ j.toNat)) := opI fun i j _ _ _ _ _ hc q =>
  rshift_int hc (by rw [Int.fdiv_eq_ediv_of_nonneg i (two_pow_nn _)]; exact q)
theorem op_and : OpR X (binaryOp .BitAnd) (rI0 fun i j => .int (Builtin.bitAnd i j)) := opI0 fun _ _ _ _ _ _ _ q => and_int q
theorem op_or : OpR X (binaryOp .BitOr) (rI0 fun i j => .int (Builtin.bitOr i j)) := opI0 fun _ _ _ _ _ _ _ q => or_int q
theorem op_xor : OpR X (binaryOp .BitXor) (rI0 fun i j => .int (Builtin.bitXor i j)) := opI0 fun _ _ _ _ _ _ _ q => xor_int q
theorem iop_add : OpR X (inplaceOp .Add) (rI0 fun i j => .int (i + j)) := opI0 fun _ _ _ _ _ _ _ q => iadd_int q
theorem iop_or : OpR X (inplaceOp .BitOr) (rI0 fun i j => .int (Builtin.bitOr i j)) := opI0 fun _ _ _ _ _ _ _ q => ior_int q
theorem unI {f : Value → Sem Value} {g : Int → Int}
    (rule : ∀ (i : Int) (t : Tok) (s : Shared) (Q : Value → Shared → Prop) (E : Value → Shared → Prop), Q (.int (g i) s.toks) { s with toks := s.toks + 1 } → wpAny (model X.prog X.w) X.A (f (.int i t)) Q E s) :
    UnR X f (rU fun i => .int (g i)) := by
  intro pins s σ H x v Q I rx h
  obtain ⟨i, rfl, q⟩ := h
  obtain ⟨t, rfl⟩ := rx
  exact rule i t s _ _ ⟨.int (g i), H, I.tok _, ⟨_, rfl⟩, q⟩
theorem un_neg : UnR X (unaryOp .USub) (rU fun i => .int (-i)) := unI fun _ _ _ _ _ q => neg_int q
end
def scal : V → V → Bool
  | .non, .non => true | .non, .int _ => true | .int _, .non => true | .non, .bl _ => true | .bl _, .non => true | .non, .str _ => true | .str _, .non => true
  | .int _, .int _ => true | .bl _, .bl _ => true | .str _, .str _ => true | .byt _, .byt _ => true
  | .int _, .str _ => true | .str _, .int _ => true | .bl _, .str _ => true | .str _, .bl _ => true
  | _, _ => false
def rEq : R2 := fun x y H Q => scal x y = true ∧ Q (.bl (decide (x = y))) H
def rNe : R2 := fun x y H Q => scal x y = true ∧ Q (.bl (!decide (x = y))) H
theorem dec_int {i j : Int} : decide (V.int i = V.int j) = (i == j) := by
  rw [Bool.eq_iff_iff]
  simp
theorem dec_bl {i j : Bool} : decide (V.bl i = V.bl j) = (i == j) := by
  rw [Bool.eq_iff_iff]
  simp
theorem dec_str {i j : Str} : decide (V.str i = V.str j) = (i == j) := by
  rw [Bool.eq_iff_iff]
  simp
theorem dec_byt {i j : Array UInt8} : decide (V.byt i = V.byt j) = (i.toList == j.toList) := by
  rw [Bool.eq_iff_iff]
  cases i
  cases j
  simp
section
variable {X : Cx} {a b c : Expr} {ta tb tc : TE} {pos : Pos}
theorem fin_bl {pins : List (Addr × Obj)} {σ : St} {H : Hp} {s : Shared} {Q : VK} {k k' : Bool} (I : Inv X pins σ H s) (q : Q (.bl k) H) (e : k = k') : EP X pins σ Q (.bool k') s := by
  subst e
  exact ⟨.bl k, H, I, rfl, q⟩
theorem op_eq : OpR X (compareOp .Eq) rEq := by
  intro pins s σ H x y v u Q I rx ry h
  obtain ⟨hs, q⟩ := h
  cases x with
  | non =>
    cases rx
    cases y with
    | non => cases ry; exact PySem.EqNone.eq_none_none (fin_bl I q (by simp))
    | bl j => cases ry; exact PySem.EqNone.eq_none_bool (fin_bl I q (by simp))
    | int j => obtain ⟨t', rfl⟩ := ry; exact PySem.EqNone.eq_none_int (fin_bl I q (by simp))
    | str j => obtain ⟨t', rfl⟩ := ry; exact PySem.EqNone.eq_none_str (fin_bl I q (by simp))
    | _ => exact absurd (show false = true from hs) Bool.false_ne_true
  | bl i =>
    cases rx
    cases y with
    | non => cases ry; exact PySem.EqNone.eq_bool_none (fin_bl I q (by simp))
    | bl j => cases ry; exact eq_bool (fin_bl I q dec_bl)
    | str j => obtain ⟨t', rfl⟩ := ry; exact PySem.EqMixed.eq_bool_str (fin_bl I q (by simp))
    | _ => exact absurd (show false = true from hs) Bool.false_ne_true
  | int i =>
    obtain ⟨t, rfl⟩ := rx
    cases y with
    | non => cases ry; exact PySem.EqNone.eq_int_none (fin_bl I q (by simp))
    | int j => obtain ⟨t', rfl⟩ := ry; exact eq_int (fin_bl I q dec_int)
    | str j => obtain ⟨t', rfl⟩ := ry; exact PySem.EqMixed.eq_int_str (fin_bl I q (by simp))
    | _ => exact absurd (show false = true from hs) Bool.false_ne_true
  | str i =>
    obtain ⟨t, rfl⟩ := rx
    cases y with
    | non => cases ry; exact PySem.EqNone.eq_str_none (fin_bl I q (by simp))
    | bl j => cases ry; exact PySem.EqMixed.eq_str_bool (fin_bl I q (by simp))
    | int j => obtain ⟨t', rfl⟩ := ry; exact PySem.EqMixed.eq_str_int (fin_bl I q (by simp))
    | str j => obtain ⟨t', rfl⟩ := ry; exact eq_str (fin_bl I q dec_str)
    | _ => exact absurd (show false = true from hs) Bool.false_ne_true
  | byt i =>
    obtain ⟨t, rfl⟩ := rx
    cases y with
    | byt j => obtain ⟨t', rfl⟩ := ry; exact PySem.W.eq_bytes (fin_bl I q dec_byt)
    | _ => exact absurd (show false = true from hs) Bool.false_ne_true
  | _ => cases y <;> exact absurd (show false = true from hs) Bool.false_ne_true
theorem op_ne : OpR X (compareOp .NotEq) rNe := by
  intro pins s σ H x y v u Q I rx ry h
  obtain ⟨hs, q⟩ := h
  cases x with
  | non =>
    cases rx
    cases y with
    | non => cases ry; exact PySem.EqNone.ne_none_none (fin_bl I q (by simp))
    | bl j => cases ry; exact PySem.EqNone.ne_none_bool (fin_bl I q (by simp))
    | int j => obtain ⟨t', rfl⟩ := ry; exact PySem.EqNone.ne_none_int (fin_bl I q (by simp))
    | str j => obtain ⟨t', rfl⟩ := ry; exact PySem.EqNone.ne_none_str (fin_bl I q (by simp))
    | _ => exact absurd (show false = true from hs) Bool.false_ne_true
  | bl i =>
    cases rx
    cases y with
    | non => cases ry; exact PySem.EqNone.ne_bool_none (fin_bl I q (by simp))
    | bl j => cases ry; exact ne_bool (fin_bl I q (congrArg not dec_bl))
    | str j => obtain ⟨t', rfl⟩ := ry; exact PySem.EqMixed.ne_bool_str (fin_bl I q (by simp))
    | _ => exact absurd (show false = true from hs) Bool.false_ne_true
  | int i =>
    obtain ⟨t, rfl⟩ := rx
    cases y with
    | non => cases ry; exact PySem.EqNone.ne_int_none (fin_bl I q (by simp))
    | int j => obtain ⟨t', rfl⟩ := ry; exact ne_int (fin_bl I q (congrArg not dec_int))
    | str j => obtain ⟨t', rfl⟩ := ry; exact PySem.EqMixed.ne_int_str (fin_bl I q (by simp))
    | _ => exact absurd (show false = true from hs) Bool.false_ne_true
  | str i =>
    obtain ⟨t, rfl⟩ := rx
    cases y with
    | non => cases ry; exact PySem.EqNone.ne_str_none (fin_bl I q (by simp))
    | bl j => cases ry; exact PySem.EqMixed.ne_str_bool (fin_bl I q (by simp))
    | int j => obtain ⟨t', rfl⟩ := ry; exact PySem.EqMixed.ne_str_int (fin_bl I q (by simp))
    | str j => obtain ⟨t', rfl⟩ := ry; exact ne_str (fin_bl I q (congrArg not dec_str))
    | _ => exact absurd (show false = true from hs) Bool.false_ne_true
  | byt i =>
    obtain ⟨t, rfl⟩ := rx
    cases y with
    | byt j => obtain ⟨t', rfl⟩ := ry; exact PySem.W.ne_bytes (fin_bl I q (congrArg not dec_byt))
    | _ => exact absurd (show false = true from hs) Bool.false_ne_true
  | _ => cases y <;> exact absurd (show false = true from hs) Bool.false_ne_true
theorem op_lt : OpR X (compareOp .Lt) (rI0 fun i j => .bl (decide (i < j))) := opB0 fun _ _ _ _ _ _ _ q => lt_int q
theorem op_le : OpR X (compareOp .LtE) (rI0 fun i j => .bl (decide (i ≤ j))) := opB0 fun _ _ _ _ _ _ _ q => le_int q
theorem op_gt : OpR X (compareOp .Gt) (rI0 fun i j => .bl (decide (j < i))) := opB0 fun _ _ _ _ _ _ _ q => gt_int q
theorem op_ge : OpR X (compareOp .GtE) (rI0 fun i j => .bl (decide (j ≤ i))) := opB0 fun _ _ _ _ _ _ _ q => ge_int q
theorem nomark (b : Expr) {op : CmpOp} (h : op ≠ .In := by decide) (h2 : op ≠ .NotIn := by decide) : behindInMarks op b = false := by
  have e1 : (op == CmpOp.In) = false := by cases op <;> first | rfl | exact absurd rfl h
  have e2 : (op == CmpOp.NotIn) = false := by cases op <;> first | rfl | exact absurd rfl h2
  cases b <;> simp [behindInMarks, e1, e2]
theorem pe_cmpR {op : CmpOp} {r : R2} (ho : OpR X (compareOp op) r) (ha : PE X a ta) (hb : PE X b tb) (hm : behindInMarks op b = false) : PE X (.Compare a [op] [b] pos) (tOp r ta tb) := by
  intro pins s σ H Q I h
  exact wpAny_Compare1 (binT ha hb I h fun v u s2 x y H2 I2 rx ry q => ho pins s2 σ H2 x y v u Q I2 rx ry q) hm
def tTest (t : TE) : TT := fun σ H Q => t σ H fun x H' => ∃ k, x = .bl k ∧ Q k H'
theorem pt_cmpR {op : CmpOp} {r : R2} (ho : OpR X (compareOp op) r) (ha : PE X a ta) (hb : PE X b tb) (hm : behindInMarks op b = false) : PT X (.Compare a [op] [b] pos) (tTest (tOp r ta tb)) := by
  intro pins s σ H Q I h
  refine wpAny_isTrue_Compare1 (thn (ha pins s σ H _ I h) fun v s1 ⟨x, H1, I1, r1, q1⟩ => thn (hb pins s1 σ H1 _ I1 q1) fun u s2 ⟨y, H2, I2, r2, q2⟩ =>
    thn (ho pins s2 σ H2 x y v u _ I2 r1 r2 q2) fun c s3 ⟨z, H3, I3, r3, k, e, q3⟩ => ?_) hm
  subst e
  cases r3
  exact wpAny_truthy_bool ⟨H3, I3, q3⟩
theorem line63 : (sizeLine : Nat) < 2 ^ 63 := by rw [sizeLine_eq]; decide
theorem vals1 {x : V} {us : List Value} (r : Vals [x] us) : ∃ u, us = [u] ∧ RelV x u := by
  cases r with
  | cons r1 r2 => cases r2; exact ⟨_, rfl, r1⟩
theorem call_abs : CallR X (.builtin "abs") (fun xs H Q => ∃ i, xs = [.int i] ∧ Q (.int (if i < 0 then -i else i)) H) := by
  intro pins s σ H xs us Q I r h
  obtain ⟨i, rfl, q⟩ := h
  obtain ⟨u, rfl, t, rfl⟩ := vals1 r
  exact call_abs_int fun u tk => ⟨.int (if i < 0 then -i else i), H, I.tok _, ⟨_, rfl⟩, q⟩
end
end L2
namespace L2
open PySem PySem.Spec PyProof.Rows
structure ObjM (h : Heap) (x dx C : Addr) (mA : Str → Option Value) : Prop where
  obj : h.get? x = some (PySem.W.instObj C dx)
  ns : h.Ns1 dx mA
  ne : dx ≠ x
theorem lookIn_ns {h : Heap} {dx : Addr} {mA : Str → Option Value} (n : h.Ns1 dx mA) : ∃ od, h.get? dx = some od ∧ ∀ name, PySem.W.lookIn name od = some (mA name) := by
  obtain ⟨o, es, ep, ho, hd, hk, _, hm⟩ := n
  refine ⟨o, ho, fun name => ?_⟩
  have e := hm name
  unfold nsFind findBy at e
  rw [← Array.find?_toList] at e
  unfold PySem.W.lookIn
  rw [hd]
  dsimp only
  split
  · rename_i y q
    rw [q] at e
    exact congrArg some e
  · rename_i q
    rw [q] at e
    have a : es.toList.any (·.refKey) = false := by
      rw [List.any_eq_false]
      intro y hy
      obtain ⟨z, t, hkey⟩ := hk y (Array.mem_toList_iff.mp hy)
      simp [DictEntry.refKey, hkey]
    have a' : ¬ es.toList.any (·.refKey) = true := by rw [a]; exact Bool.false_ne_true
    rw [if_neg a']
    exact congrArg some e
theorem ObjM.look {h : Heap} {x dx C : Addr} {mA : Str → Option Value} (I : ObjM h x dx C mA) : ∃ od, PySem.W.InstAt h x (PySem.W.instObj C dx) C (some od) ∧ ∀ name, PySem.W.lookIn name od = some (mA name) :=
  let ⟨od, ho, hl⟩ := lookIn_ns I.ns
  ⟨od, ⟨I.obj, rfl, rfl, ho⟩, hl⟩
section
variable {prog : Program} {w : World} {A : Around} {E : Value → Shared → Prop} {s : Shared} {K : PySem.W.Frag} {x dx C f : Addr} {mA : Str → Option Value} {name : Str} {v : Value}
theorem get_map {expr : Bool} {Q : Value → Shared → Prop} (X : K.In s.heap) (I : ObjM s.heap x dx C mA) (hg : PySem.W.plainGet K C name = true) (hh : PySem.W.hasDictIn K C = true)
    (ha : PySem.W.findIn K (.ref C) name = some none) (hv : mA name = some v) (hv' : PySem.W.handedIn v = true) (h : Q v { s with toks := s.toks + 1 }) :
    wpAny (model prog w) A (getAttr (.ref x) name expr) Q E s := by
  obtain ⟨od, J, hl⟩ := I.look
  exact PySem.W.get_value X J (PySem.W.plainGet_of hg).1 (PySem.W.findObj_own hh ha rfl (by rw [hl, hv])) hv' h
theorem get_meth {pl : Sem Bool} {Q : Value × List Value → Shared → Prop} (X : K.In s.heap) (I : ObjM s.heap x dx C mA) (hg : PySem.W.plainGet K C name = true)
    (hf : PySem.W.findIn K (.ref C) name = some (some (.ref f))) (ht : PySem.W.isFn K (.ref f) = true) (hv : mA name = none) (h : Q (.ref f, [.ref x]) s) :
    wpAny (model prog w) A (getMethod (.ref x) name pl) Q E s := by
  obtain ⟨od, J, hl⟩ := I.look
  exact PySem.W.method_fn X J (PySem.W.plainGet_of hg).1 (PySem.W.plainGet_of hg).2 hf (beq_iff_eq.mp ht) (by show (PySem.W.lookIn name od).map (·.isSome) = some false; rw [hl, hv]; rfl) h
theorem set_map {ns : List Str} {Q : Unit → Shared → Prop} (X : K.In s.heap) (I : ObjM s.heap x dx C mA)
    (hs : PySem.W.findIn K (.ref C) "__setattr__" = some (some (.builtin "object.__setattr__"))) (hp : PySem.W.plainOver K C = true) (ht : PySem.W.takerIn K C name = some none) (hh : PySem.W.hasDictIn K C = true)
    (hw : PySem.Within mA ns) (hsz : ns.length ≤ sizeLine)
    (h : ∀ h', ObjM h' x dx C (fun y => if y = name then some v else mA y) → Heap.SameBut dx s.heap h' → Q () { s with heap := h', toks := s.toks + 2 }) :
    wpAny (model prog w) A (setAttr (.ref x) name v) Q E s := by
  obtain ⟨od, J, hl⟩ := I.look
  refine PySem.W.set_plain X J hs (PySem.W.osa_open (s := { s with toks := s.toks + 1 }) (r := none) X J hp ht fun b => ?_)
  obtain ⟨cd, hc, hd'⟩ := PySem.W.any_some hh
  have hx : s.heap.get? x = some ⟨.ref C, some dx, .plain, #[]⟩ := I.obj
  refine wpAny_bind (wpAny_pure (wpAny_bind (wpAny_bind (wpAny_loadPart hx (wpAny_bind (PySem.W.Looks.here (s := { s with toks := s.toks + 1 }) (PySem.W.looks_clsIn X hc) ?_))))))
  rw [hd']
  refine wpAny_pure (a := some dx) (wpAny_bind (wpAny_pure (wpAny_bind ?_)))
  refine wpAny_nsSet1 (s := { s with toks := s.toks + 1 }) I.ns fun h' hn2 hs2 => ?_
  obtain ⟨oD, esD, epD, hoD, hdD, hcD⟩ := hn2.count (PySem.Within.cons name v hw)
  refine wpAny_bind (wpAny_lookBehind hoD (by rw [hdD]; exact pastItsLine_dict (Nat.le_trans hcD (by rw [List.length_cons]; omega))) ?_)
  exact wpAny_pure (h _ ⟨(hs2.2 _ (Ne.symm I.ne)).trans I.obj, hn2, I.ne⟩ hs2)
theorem make_map {R : Result → Shared → Prop} {vs : List Value} {kw : List (Str × Value)} (X : K.In s.heap) (hm : PySem.W.makesIn K C = true)
    (hi : PySem.W.findIn K (.ref C) "__init__" = some (some (.ref f))) (hf : PySem.W.typeIn K (.ref f) = some (.type "function"))
    (h : codeAny (model prog w) (A.under (.builtin "type.__call__" ⟨.ref C :: vs, kw⟩)) (.call (.ref f) ⟨.ref (s.heap.objs.size + 1) :: vs, kw⟩) (PySem.W.InitBack (s.heap.objs.size + 1) R)
      { s with heap := (s.heap.push PySem.W.emptyDict).push (PySem.W.instObj C s.heap.objs.size) }) :
    codeAny (model prog w) A (.call (.ref C) ⟨vs, kw⟩) R s := by
  obtain ⟨hh, g, d, t, os⟩ := s
  exact PySem.W.make_core (PySem.W.makes_of X hm) (PySem.W.looks_findIn X hi) (fun self => PySem.W.bind_fn X self hf) (.inl rfl) h
end
def putF (f : Str) (v : V) : List (Str × V) → List (Str × V)
  | [] => [(f, v)]
  | (g, x) :: r => if g = f then (g, v) :: r else (g, x) :: putF f v r
theorem lookup_putF (f g : Str) (v : V) : ∀ fs : List (Str × V), (putF f v fs).lookup g = if g = f then some v else fs.lookup g
  | [] => by
    show List.lookup g [(f, v)] = _
    by_cases h : g = f
    · have hb : (g == f) = true := beq_iff_eq.mpr h
      simp only [List.lookup, hb, if_pos h]
    · have hb : (g == f) = false := beq_eq_false_iff_ne.mpr h
      simp only [List.lookup, hb, if_neg h]
  | (k, x) :: r => by
    have ih := lookup_putF f g v r
    rw [show putF f v ((k, x) :: r) = (if k = f then (k, v) :: r else (k, x) :: putF f v r) from rfl]
    by_cases hk : k = f
    · rw [if_pos hk]
      by_cases h : g = k
      · have hb : (g == k) = true := beq_iff_eq.mpr h
        simp only [List.lookup, hb, if_pos (h.trans hk)]
      · have hb : (g == k) = false := beq_eq_false_iff_ne.mpr h
        simp only [List.lookup, hb, if_neg (fun e : g = f => h (e.trans hk.symm))]
    · rw [if_neg hk]
      by_cases h : g = k
      · have hb : (g == k) = true := beq_iff_eq.mpr h
        simp only [List.lookup, hb, if_neg (fun e : g = f => hk (h.symm.trans e))]
      · have hb : (g == k) = false := beq_eq_false_iff_ne.mpr h
        simp only [List.lookup, hb]
        exact ih
theorem keys_putF (f : Str) (v : V) : ∀ fs : List (Str × V), f ∈ (putF f v fs).map (·.1) ∧ ∀ g, g ∈ fs.map (·.1) → g ∈ (putF f v fs).map (·.1)
  | [] => ⟨by simp [putF], fun g h => by simp at h⟩
  | (k, x) :: r => by
    obtain ⟨i1, i2⟩ := keys_putF f v r
    rw [show putF f v ((k, x) :: r) = (if k = f then (k, v) :: r else (k, x) :: putF f v r) from rfl]
    by_cases hk : k = f
    · rw [if_pos hk]
      subst hk
      exact ⟨by simp, fun g h => by simpa using h⟩
    · rw [if_neg hk]
      refine ⟨?_, fun g h => ?_⟩
      · rw [List.map_cons]
        exact List.mem_cons_of_mem _ i1
      · rw [List.map_cons] at h ⊢
        rcases List.mem_cons.mp h with e | e
        · exact List.mem_cons.mpr (.inl e)
        · exact List.mem_cons_of_mem _ (i2 g e)
theorem length_putF (f : Str) (v : V) : ∀ fs : List (Str × V), (putF f v fs).length ≤ fs.length + 1
  | [] => by simp [putF]
  | (k, x) :: r => by
    have ih := length_putF f v r
    rw [show putF f v ((k, x) :: r) = (if k = f then (k, v) :: r else (k, x) :: putF f v r) from rfl]
    by_cases hk : k = f
    · rw [if_pos hk, List.length_cons, List.length_cons]; omega
    · rw [if_neg hk, List.length_cons, List.length_cons]; omega
theorem RelO.some_of {v : V} {o : Option Value} (r : RelO (some v) o) : ∃ u, o = some u ∧ RelV v u := by
  cases o with
  | none => exact (show False from r).elim
  | some u => exact ⟨u, rfl, r⟩
theorem RelO.none_of {o : Option Value} (r : RelO none o) : o = none := by
  cases o with
  | none => rfl
  | some u => exact (show False from r).elim
theorem handed_of {v : V} {u : Value} (r : RelV v u) : PySem.W.handedIn u = true := by
  cases v with
  | non => cases (show u = Value.none from r); rfl
  | bl b => cases (show u = Value.bool b from r); rfl
  | int i => obtain ⟨t, e⟩ := (show ∃ t, u = Value.int i t from r); cases e; rfl
  | str x => obtain ⟨t, e⟩ := (show ∃ t, u = Value.str x t from r); cases e; rfl
  | byt b => obtain ⟨t, e⟩ := (show ∃ t, u = Value.bytes b t from r); cases e; rfl
  | flt b => obtain ⟨t, e⟩ := (show ∃ t, u = Value.float b t from r); cases e; rfl
  | ref a => cases (show u = Value.ref a from r); rfl
  | ty n => cases (show u = Value.type n from r); rfl
section
variable {P : Program} {w : World} {H H' : Hp} {h h' : Heap} {a C dx : Addr} {fs fs' : List (Str × V)}
theorem ins_get (hok : HOk P w H h) (e : H a = some (.ins C dx fs)) : ∃ mA, ObjM h a dx C mA ∧ (∀ f, RelO (fs.lookup f) (mA f)) ∧ PySem.Within mA (fs.map (·.1)) ∧ fs.length ≤ 1000 ∧ H dx = some (.own a) := by
  obtain ⟨d, z, ne, ob, mA, n, r, q⟩ := (show ObjOk P w H h a (.ins C dx fs) from hok a _ e)
  exact ⟨mA, ⟨ob, n, ne⟩, r, q, z, d⟩
end
structure Cls (K : PySem.W.Frag) (C : Addr) : Prop where
  pg : PySem.W.plainGet K C Str.empty = true
  hd : PySem.W.hasDictIn K C = true
  po : PySem.W.plainOver K C = true
  sa : PySem.W.findIn K (.ref C) "__setattr__" = some (some (.builtin "object.__setattr__"))
theorem Cls.get {K : PySem.W.Frag} {C : Addr} (c : Cls K C) (f : Str) : PySem.W.plainGet K C f = true := c.pg
def NoAttr (K : PySem.W.Frag) (C : Addr) (f : Str) : Prop := PySem.W.findIn K (.ref C) f = some none
theorem NoAttr.taker {K : PySem.W.Frag} {C : Addr} {f : Str} (n : NoAttr K C f) : PySem.W.takerIn K C f = some none := by
  unfold PySem.W.takerIn
  rw [show PySem.W.findIn K (.ref C) f = some none from n]
  rfl
structure Meth (K : PySem.W.Frag) (C : Addr) (m : Str) (f : Addr) : Prop where
  at_ : PySem.W.findIn K (.ref C) m = some (some (.ref f))
  fn : PySem.W.isFn K (.ref f) = true
  kp : PySem.W.keepIn K (.ref f) = true
section
variable {X : Cx} {pins : List (Addr × Obj)} {σ : St} {H : Hp} {s : Shared} {a C dx : Addr} {fs : List (Str × V)} {f : Str} {v : V} {A : Around} {E : Value → Shared → Prop}
theorem getattr_ok {b : Bool} {Q : Value → Shared → Prop} (I : Inv X pins σ H s) (e : H a = some (.ins C dx fs)) (c : Cls X.K C) (n : NoAttr X.K C f) (l : fs.lookup f = some v)
    (h : ∀ u s', Inv X pins σ H s' → RelV v u → Q u s') : wpAny (model X.prog X.w) A (getAttr (.ref a) f b) Q E s := by
  obtain ⟨mA, O, r, _, _, _⟩ := ins_get I.hok e
  obtain ⟨u, hu, ru⟩ := RelO.some_of (v := v) (o := mA f) (by rw [← l]; exact r f)
  exact get_map I.kIn O (c.get f) c.hd n hu (handed_of ru) (h u _ (I.tok _) ru)
theorem getmeth_ok {m : Str} {g : Addr} {pl : Sem Bool} {Q : Value × List Value → Shared → Prop} (I : Inv X pins σ H s) (e : H a = some (.ins C dx fs)) (c : Cls X.K C) (k : Meth X.K C m g) (l : fs.lookup m = none)
    (h : Q (.ref g, [.ref a]) s) : wpAny (model X.prog X.w) A (getMethod (.ref a) m pl) Q E s := by
  obtain ⟨mA, O, r, _, _, _⟩ := ins_get I.hok e
  have hn : mA m = none := RelO.none_of (by rw [← l]; exact r m)
  exact get_meth I.kIn O (c.get m) k.at_ k.fn hn h
theorem setattr_ok {y : V} {u : Value} {Q : Unit → Shared → Prop} (I : Inv X pins σ H s) (e : H a = some (.ins C dx fs)) (c : Cls X.K C) (n : NoAttr X.K C f) (hl : fs.length < 1000) (ry : RelV y u)
    (h : ∀ s', Inv X pins σ (upd H a (.ins C dx (putF f y fs))) s' → Q () s') : wpAny (model X.prog X.w) A (setAttr (.ref a) f u) Q E s := by
  obtain ⟨mA, O, r, wi, _, ho⟩ := ins_get I.hok e
  have hz : (fs.map (·.1)).length ≤ sizeLine := by rw [List.length_map, sizeLine_eq]; omega
  refine set_map I.kIn O c.sa c.po n.taker c.hd wi hz fun h' O' sb => h _ ?_
  have hd : ∃ o, h'.get? dx = some o := let ⟨o, _, _, e', _⟩ := O'.ns; ⟨o, e'⟩
  refine I.write (x := a) (e := dx) (by rw [e]; exact True.intro) (.inr ho) (fun b q hb z => (sb.2 b hb).trans z) hd ?_
  refine ⟨by rw [upd_ne O.ne]; exact ho, ?_, O.ne, O'.obj, _, O'.ns, fun g => ?_, fun g hg => ?_⟩
  · have := length_putF f y fs; omega
  · show RelO ((putF f y fs).lookup g) (if g = f then some u else mA g)
    rw [lookup_putF]
    by_cases q : g = f
    · rw [if_pos q, if_pos q]; exact ry
    · rw [if_neg q, if_neg q]; exact r g
  · by_cases q : g = f
    · rw [q]; exact (keys_putF f y fs).1
    · refine (keys_putF f y fs).2 g (wi g fun z => hg ?_)
      show (if g = f then some u else mA g) = none
      rw [if_neg q]; exact z
theorem Inv.made (I : Inv X pins σ H s) : Inv X pins σ (upd (upd H s.heap.objs.size (.own (s.heap.objs.size + 1))) (s.heap.objs.size + 1) (.ins C s.heap.objs.size []))
    { s with heap := (s.heap.push PySem.W.emptyDict).push (PySem.W.instObj C s.heap.objs.size) } := by
  have e1 : (s.heap.push PySem.W.emptyDict).get? s.heap.objs.size = some PySem.W.emptyDict := Heap.get?_push_size s.heap rfl
  have e2 : ((s.heap.push PySem.W.emptyDict).push (PySem.W.instObj C s.heap.objs.size)).get? (s.heap.objs.size + 1) = some (PySem.W.instObj C s.heap.objs.size) := by
    have := Heap.get?_push_size (s.heap.push PySem.W.emptyDict) (o := PySem.W.instObj C s.heap.objs.size) rfl
    rwa [Heap.size_push] at this
  have e3 : (s.heap.push PySem.W.emptyDict).Ns s.heap.objs.size (fun _ => none) := ⟨PySem.W.emptyDict, #[], _, e1, rfl, (fun e he => absurd he (by simp)), fun _ => rfl⟩
  have I1 := I.laid (a := s.heap.objs.size) (o := .own (s.heap.objs.size + 1)) (h' := s.heap.push PySem.W.emptyDict) (t' := s.toks) (fun b u q => Heap.get?_push_of_some _ q) (Nat.le_refl _) ⟨_, e1⟩
  refine I1.laid (a := s.heap.objs.size + 1) (o := .ins C s.heap.objs.size []) (t' := s.toks) (fun b u q => Heap.get?_push_of_some _ q) (Nat.le_of_eq (Heap.size_push _ _)) ?_
  have ne : s.heap.objs.size ≠ s.heap.objs.size + 1 := Nat.ne_of_lt (Nat.lt_succ_self _)
  refine ⟨by rw [upd_ne ne, upd_same], Nat.zero_le _, ne, e2, fun _ => none, (Heap.Ns1.of_empty e3).at fun o q => Heap.get?_push_of_some _ q, fun _ => True.intro, fun y hy => absurd rfl hy⟩
theorem attr_of {prog : Program} {w : World} {env : Env} {e : Expr} {f : Str} {pos : Pos} {s : Shared} {Q : Value → Shared → Prop} (hb : attributeBase e f env (eval e env) = eval e env)
    (h : wpAny (model prog w) A (eval e env) (fun o s₁ => wpAny (model prog w) A (getAttr o f true) Q E s₁) E s) : wpAny (model prog w) A (eval (.Attribute e f pos) env) Q E s :=
  Attribute_any_ h (by rw [arm_eval_Attribute, hb])
end
def tFld (K : PySem.W.Frag) (ta : TE) (f : Str) : TE := fun σ H Q => ta σ H fun x H1 => ∃ a C dx fs v, x = .ref a ∧ H1 a = some (.ins C dx fs) ∧ Cls K C ∧ NoAttr K C f ∧ fs.lookup f = some v ∧ Q v H1
def sFld (K : PySem.W.Frag) (ta tv : TE) (f : Str) : TS := fun D σ H => tv σ H fun y H1 => ta σ H1 fun x H2 => ∃ a C dx fs, x = .ref a ∧ H2 a = some (.ins C dx fs) ∧ Cls K C ∧ NoAttr K C f ∧ fs.length < 1000 ∧
  D.nx σ (upd H2 a (.ins C dx (putF f y fs)))
def InOp (X : Cx) (op : Operator) (rd : V → V → Hp → VK → Prop) : Prop :=
  ∀ (pins : List (Addr × Obj)) (s : Shared) (σ : St) (H : Hp) (x y : V) (u v : Value) (Q : VK), Inv X pins σ H s → RelV x u → RelV y v → rd x y H Q → wpAny (model X.prog X.w) X.A (inplaceOp op u v) (EP X pins σ Q) X.xe s
def sFldAug (K : PySem.W.Frag) (ta tv : TE) (rd : V → V → Hp → VK → Prop) (f : Str) : TS := fun D σ H => ta σ H fun x H1 => ∃ a C dx fs v, x = .ref a ∧ H1 a = some (.ins C dx fs) ∧ Cls K C ∧ NoAttr K C f ∧ fs.lookup f = some v ∧
  tv σ H1 fun y H2 => rd v y H2 fun z H3 => ∃ dx' fs', H3 a = some (.ins C dx' fs') ∧ fs'.length < 1000 ∧ D.nx σ (upd H3 a (.ins C dx' (putF f z fs')))
section
variable {X : Cx} {o e value : Expr} {f : Str} {pos pos' tpos : Pos} {ta tv : TE}
theorem pe_fld (he : PE X e ta) (hb : attributeBase e f X.env (eval e X.env) = eval e X.env) : PE X (.Attribute e f pos) (tFld X.K ta f) := by
  intro pins s σ H Q I h
  refine attr_of hb (thn (he pins s σ H _ I h) fun u s1 ⟨x, H1, I1, rx, a, C, dx, fs, v, ex, ea, c, n, l, q⟩ => ?_)
  subst ex
  obtain rfl : u = Value.ref a := rx
  exact getattr_ok I1 ea c n l fun u' s2 I2 ru => ⟨v, H1, I2, ru, q⟩
theorem ps_fld (ha : PE X o ta) (hv : PE X value tv) (hs : swapsWith value (some (.Attribute o f pos')) pos.line X.env = pure false) : PS X (.Assign [.Attribute o f pos'] value pos) (sFld X.K ta tv f) := by
  intro pins s σ H D I h
  refine plainObj_wpAny_Assign_Attribute (thn (hv pins s σ H _ I h) fun u s1 ⟨y, H1, I1, ry, q⟩ => thn (ha pins s1 σ H1 _ I1 q) fun ov s2 ⟨x, H2, I2, rx, a, C, dx, fs, ex, ea, c, n, l, q2⟩ => ?_) hs
  subst ex
  obtain rfl : ov = Value.ref a := rx
  exact setattr_ok I2 ea c n l ry fun s3 I3 => ⟨σ, _, I3, q2⟩
theorem ps_fldaug {op : Operator} {rd : V → V → Hp → VK → Prop} (ha : PE X o ta) (hv : PE X value tv) (hop : InOp X op rd) : PS X (.AugAssign (.Attribute o f tpos) op value pos) (sFldAug X.K ta tv rd f) := by
  intro pins s σ H D I h
  refine wpAny_AugAssign_AttributeAny (thn (ha pins s σ H _ I h) fun ov s1 ⟨x, H1, I1, rx, a, C, dx, fs, v, ex, ea, c, n, l, q⟩ => ?_)
  subst ex
  obtain rfl : ov = Value.ref a := rx
  refine getattr_ok I1 ea c n l fun u s2 I2 ru => thn (hv pins s2 σ H1 _ I2 q) fun w3 s3 ⟨y, H2, I3, ry, q3⟩ => thn (hop pins s3 σ H2 v y u w3 _ I3 ru ry q3) fun w4 s4 ⟨z, H3, I4, rz, dx', fs', ea', l', q4⟩ => ?_
  exact setattr_ok I4 ea' c n l' rz fun s5 I5 => ⟨σ, _, I5, q4⟩
def rAdd : V → V → Hp → VK → Prop := fun x y H Q => ∃ i j, x = .int i ∧ y = .int j ∧ Q (.int (i + j)) H
theorem in_add : InOp X .Add rAdd := by
  rintro pins s σ H x y u v Q I rx ry ⟨i, j, rfl, rfl, q⟩
  obtain ⟨t, rfl⟩ := (show ∃ t, u = Value.int i t from rx)
  obtain ⟨t', rfl⟩ := (show ∃ t', v = Value.int j t' from ry)
  exact PyProof.Rows.iadd_int ⟨.int (i + j), H, I.tok _, ⟨_, rfl⟩, q⟩
theorem methcall_of {pl : Sem Bool} {m : Str} {apos : Pos} {args : List Expr} {pins : List (Addr × Obj)} {s : Shared} {σ : St} {H : Hp} {Q : Value → Shared → Prop} {te : TE} (he : PE X e te) (I : Inv X pins σ H s)
    (h : te σ H fun x H1 => ∃ a C dx fs g, x = .ref a ∧ H1 a = some (.ins C dx fs) ∧ Cls X.K C ∧ Meth X.K C m g ∧ fs.lookup m = none ∧
      ∀ s1, Inv X pins σ H1 s1 → wpAny (model X.prog X.w) X.A (callWith pos (.ref g) [.ref a] (backTo pos (starEach args X.env)) (backToKw pos (keywordEach [] X.env))) Q X.xe s1)
    (ht : eval (.Call (.Attribute e m apos) args [] pos) X.env = (do
      let ov ← eval e X.env
      standAt apos.atName
      let (f, first) ← holding [ov] (getMethod ov m pl)
      callWith pos f first (backTo pos (starEach args X.env)) (backToKw pos (keywordEach [] X.env)))) :
    wpAny (model X.prog X.w) X.A (eval (.Call (.Attribute e m apos) args [] pos) X.env) Q X.xe s := by
  refine PySem.W.methodCall_KW (pl := pl) (thn (he pins s σ H _ I h) fun u s1 ⟨x, H1, I1, rx, a, C, dx, fs, g, ex, ea, c, k, l, q⟩ => ?_) ht
  subst ex
  obtain rfl : u = Value.ref a := rx
  exact getmeth_ok I1 ea c k l (q s1 I1)
end
end L2
namespace L2
open PySem PySem.Spec PyProof.Rows
structure Room (k : Nat) (A : Around) : Prop where
  hd : A.handled = none
  dp : A.depth + 3 * k + 5 < recursionLimit
  un : A.units + 16 * k + 200 < cLine
theorem Room.mono {j k : Nat} {A : Around} (r : Room k A) (h : j ≤ k) : Room j A := ⟨r.hd, by have := r.dp; omega, by have := r.un; omega⟩
theorem Room.deeper {k : Nat} {A : Around} (r : Room (k + 1) A) (env : Env) : Room k (A.deeper env) :=
  ⟨r.hd, by have := r.dp; show A.depth + 1 + 3 * k + 5 < _; omega, by have := r.un; show A.units + 3 + 16 * k + 200 < _; omega⟩
theorem make_depth {A : Around} {C : Addr} {us : List Value} {kw : List (Str × Value)} : (A.under (.builtin "type.__call__" ⟨.ref C :: us, kw⟩)).depth = A.depth + 1 := by
  first | rfl | simp [Around.under, Code.weight, Code.isCreation, Code.isGuard, Code.isCaller, Code.frames, Code.isFrame, guardIds]
theorem make_units {A : Around} {C : Addr} {us : List Value} {kw : List (Str × Value)} : (A.under (.builtin "type.__call__" ⟨.ref C :: us, kw⟩)).units = A.units + 1 := by
  first | rfl | simp [Around.under, Code.cUnits, Code.frames, Code.isFrame]
theorem Room.make {k : Nat} {A : Around} (r : Room (k + 1) A) (C : Addr) (us : List Value) (kw : List (Str × Value)) : Room k (A.under (.builtin "type.__call__" ⟨.ref C :: us, kw⟩)) :=
  ⟨r.hd, by have := r.dp; rw [make_depth]; omega, by have := r.un; rw [make_units]; omega⟩
theorem Room.depth {k : Nat} {A : Around} (r : Room k A) : A.depth < recursionLimit := by have := r.dp; omega
theorem Room.units {k : Nat} {A : Around} (r : Room k A) : A.units + 64 < cLine := by have := r.un; omega
def tNil : TA := fun _ H Q => Q [] H
def tCons (ta : TE) (tr : TA) : TA := fun σ H Q => ta σ H fun x H1 => tr σ H1 fun xs H2 => Q (x :: xs) H2
section
variable {X : Cx} {e : Expr} {es : List Expr} {te : TE} {t : TA} {pos : Pos}
theorem pa_nil : PA X [] tNil := fun _ _ _ _ H Q I h => Calls.spliced_nil ⟨[], H, I, .nil, h⟩
theorem pa_cons (ha : PE X e te) (hr : PA X es t) (hs : starEach (e :: es) X.env = (false, eval e X.env) :: starEach es X.env := by rfl) : PA X (e :: es) (tCons te t) := by
  intro pos pins s σ H Q I h
  rw [hs]
  show wpAny _ _ (spliced ((false, eval e X.env) :: backTo pos (starEach es X.env))) _ _ s
  refine Calls.spliced_cons (thn (ha pins s σ H _ I h) fun u s1 ⟨x, H1, I1, r1, q1⟩ => ?_)
  exact thn (hr pos pins s1 σ H1 _ I1 q1) fun us s2 ⟨xs, H2, I2, r2, q2⟩ => ⟨x :: xs, H2, I2, .cons r1 r2, q2⟩
def tTup (t : TA) : TE := fun σ H Q => t σ H fun xs H1 => xs.length ≤ sizeLine ∧ ∀ p, H1 p = none → Q (.ref p) (upd H1 p (.tup xs))
def tLst (t : TA) : TE := fun σ H Q => t σ H fun xs H1 => xs.length ≤ sizeLine ∧ ∀ p, H1 p = none → Q (.ref p) (upd H1 p (.lst xs))
theorem pe_tup {x1} (h : PA X es t) : PE X (.Tuple es x1 pos) (tTup t) := by
  intro pins s σ H Q I hq
  refine wpAny_Tuple_spliced (thn (h pos pins s σ H _ I hq) fun us s1 ⟨xs, H1, I1, r, z, q⟩ => ⟨by rw [← r.length]; exact z, ?_⟩)
  have hf : H1 s1.heap.objs.size = none := I1.hok.fresh (Nat.le_refl _)
  refine ⟨.ref s1.heap.objs.size, upd H1 s1.heap.objs.size (.tup xs), I1.laid (t' := s1.toks) (fun b u e => Heap.get?_push_of_some _ e) (Nat.le_refl _) ?_, rfl, q _ hf⟩
  exact ⟨z, us, r, ⟨_, Heap.get?_push_size _ rfl, rfl, _, rfl⟩⟩
theorem pe_lst (h : PA X es t) : PE X (.List es pos) (tLst t) := by
  intro pins s σ H Q I hq
  refine wpAny_List_spliced (thn (h pos pins s σ H _ I hq) fun us s1 ⟨xs, H1, I1, r, z, q⟩ => ⟨by rw [← r.length]; exact z, ?_⟩)
  have hf : H1 s1.heap.objs.size = none := I1.hok.fresh (Nat.le_refl _)
  refine ⟨.ref s1.heap.objs.size, upd H1 s1.heap.objs.size (.lst xs), I1.laid (t' := s1.toks) (fun b u e => Heap.get?_push_of_some _ e) (Nat.le_refl _) ?_, rfl, q _ hf⟩
  exact ⟨z, us, 0, r, Heap.get?_push_size _ rfl⟩
end
abbrev Sp := List V → Hp → VK → XK → Prop
abbrev CXT := List Env → Hp → Shared → XK → Value → Shared → Prop
structure Env0 (P : Program) (w : World) (K : PySem.W.Frag) (mg : Str → Option Value) (base : Heap) (A : Around) (outer : List Env) (s : Shared) (H : Hp) : Prop where
  frames : A.frames = some outer
  mod : Mod K mg base
  bs : ∀ b o, base.get? b = some o → s.heap.get? b = some o ∧ H b = none
  bsz : base.objs.size ≤ s.heap.objs.size
  funs : s.heap.FunFrames base outer
  frf : ∀ b ∈ frs outer, H b = none
  hok : HOk P w H s.heap
  bare : AllBare s.gens
def CE (outer : List Env) (P : Program) (w : World) (H : Hp) (s : Shared) (Q : VK) (u : Value) (s' : Shared) : Prop :=
  ∃ v H', s'.os = s.os ∧ AllBare s'.gens ∧ Un (frs outer) [] H H' s.heap s'.heap ∧ HOk P w H' s'.heap ∧ RelV v u ∧ Q v H'
def CR (CX : CXT) (outer : List Env) (P : Program) (w : World) (H : Hp) (s : Shared) (Q : VK) (E : XK) (r : Result) (s' : Shared) : Prop :=
  match r with
  | .ok (.ret u) => CE outer P w H s Q u s'
  | .ok _ => False
  | .error e => CX outer H s E e s'
structure FnOk (P : Program) (w : World) (K : PySem.W.Frag) (mg : Str → Option Value) (base : Heap) (CX : CXT) (k : Nat) (f : Addr) (fd : FuncData) (ps : List Str) (sp : Sp) : Prop where
  len : ∀ vs H Q E, sp vs H Q E → vs.length = ps.length
  run : ∀ (A : Around) (outer : List Env) (s : Shared) (H : Hp) (args : Args) (us : List Value) (vs : List V) (Q : VK) (E : XK), Room k A → Env0 P w K mg base A outer s H → BindsTo s fd args (ps.zip us) → Vals vs us → sp vs H Q E →
    codeAny (model P w) A (.call (.ref f) args) (CR CX outer P w H s Q E) s
theorem FnOk.imp {P : Program} {w : World} {K : PySem.W.Frag} {mg : Str → Option Value} {base : Heap} {CX : CXT} {k : Nat} {f : Addr} {fd : FuncData} {ps : List Str} {sp sp' : Sp} (F : FnOk P w K mg base CX k f fd ps sp)
    (h : ∀ vs H Q E, sp' vs H Q E → sp vs H Q E) : FnOk P w K mg base CX k f fd ps sp' :=
  ⟨fun vs H Q E q => F.len vs H Q E (h _ _ _ _ q), fun A outer s H args us vs Q E hr he hb hv hs => F.run A outer s H args us vs Q E hr he hb hv (h _ _ _ _ hs)⟩
theorem Env0.make {P : Program} {w : World} {K : PySem.W.Frag} {mg : Str → Option Value} {base : Heap} {A : Around} {outer : List Env} {s : Shared} {H : Hp} (e : Env0 P w K mg base A outer s H) (C : Addr) (us : List Value) (kw : List (Str × Value)) :
    Env0 P w K mg base (A.under (.builtin "type.__call__" ⟨.ref C :: us, kw⟩)) outer s H := ⟨by first | exact e.frames | (simpa [Around.under, Code.envs, Code.isFrame, pushEnvs] using e.frames), e.mod, e.bs, e.bsz, e.funs, e.frf, e.hok, e.bare⟩
section
variable {X : Cx} {pins : List (Addr × Obj)} {σ : St} {H : Hp} {s s' : Shared}
theorem Inv.env0 (I : Inv X pins σ H s) : Env0 X.prog X.w X.K X.mg X.base X.A X.stack s H :=
  ⟨I.ok.frames, I.ok.mod, I.bs, Nat.le_trans I.ok.bsz I.sz, I.stack, I.stkFree, I.hok, I.bare⟩
theorem Inv.after {Q : VK} {u : Value} (I : Inv X pins σ H s) (h : CE X.stack X.prog X.w H s Q u s') : EP X pins σ Q u s' := by
  obtain ⟨v, H', os, bare, un, hok, r, q⟩ := h
  obtain ⟨hh, g, d, t, os'⟩ := s'
  obtain rfl : os' = s.os := os
  exact ⟨v, H', I.call (h' := hh) (g' := g) (d' := d) (t' := t) (ch := []) un hok bare (fun b z => absurd z (by simp)), r, q⟩
end
def tCall (sp : Sp) (dvs : List V) (E : XK) (t : TA) : TE := fun σ H Q => t σ H fun vs H1 => sp (vs ++ dvs) H1 Q E
def tMeth (C : Addr) (m : Str) (sp : Sp) (dvs : List V) (E : XK) (ta : TE) (t : TA) : TE := fun σ H Q => ta σ H fun x H1 => ∃ a dx fs, x = .ref a ∧ H1 a = some (.ins C dx fs) ∧ fs.lookup m = none ∧
  t σ H1 fun vs H2 => sp (x :: (vs ++ dvs)) H2 Q E
def tMake (C : Addr) (sp : Sp) (dvs : List V) (E : XK) (t : TA) : TE := fun σ H Q => t σ H fun vs H1 => ∀ x dx, H1 x = none → H1 dx = none → dx ≠ x →
  sp (.ref x :: (vs ++ dvs)) (upd (upd H1 dx (.own x)) x (.ins C dx [])) (fun v H2 => v = .non ∧ Q (.ref x) H2) E
def Binds (K : PySem.W.Frag) (fd : FuncData) (ps : List Str) (ds : List Value) : Prop :=
  ∀ (s : Shared) (us : List Value), K.In s.heap → (us ++ ds).length = ps.length → BindsTo s fd ⟨us, []⟩ (ps.zip (us ++ ds))
theorem Binds.all {K : PySem.W.Frag} {fd : FuncData} {ps : List Str} (h : ∀ us : List Value, us.length = ps.length → bindArgs fd ⟨us, []⟩ = pure (ps.zip us)) : Binds K fd ps [] := fun s us _ hl => by
  rw [List.append_nil] at hl ⊢
  exact .of_eq (h us hl)
def Passes (CX : CXT) (X : Cx) (E : XK) : Prop := ∀ (pins : List (Addr × Obj)) (σ : St) (H : Hp) (s : Shared) (e : Value) (s' : Shared), Inv X pins σ H s → CX X.stack H s E e s' → X.xe e s'
section
variable {X : Cx} {CX : CXT} {k : Nat} {f C : Addr} {fd : FuncData} {ps : List Str} {sp : Sp} {dvs : List V} {ds : List Value} {E : XK} {x m : Str} {p pos apos : Pos} {e o : Expr} {es : List Expr} {ta : TE} {t : TA}
theorem run_fn {pins : List (Addr × Obj)} {σ : St} {H : Hp} {s : Shared} {Q : VK} {us : List Value} {vs : List V} (F : FnOk X.prog X.w X.K X.mg X.base CX k f fd ps sp) (hr : Room k X.A) (hb : Binds X.K fd ps ds) (hd : Vals dvs ds) (hx : Passes CX X E)
    (I : Inv X pins σ H s) (r : Vals vs us) (h : sp (vs ++ dvs) H Q E) : wpAny (model X.prog X.w) X.A (call (.ref f) us) (EP X pins σ Q) X.xe s := by
  have r2 : Vals (vs ++ dvs) (us ++ ds) := r.append hd
  have hl : (us ++ ds).length = ps.length := by rw [← r2.length]; exact F.len _ _ _ _ h
  refine wpAny_call (codeAny_mono (F.run X.A X.stack s H ⟨us, []⟩ (us ++ ds) (vs ++ dvs) Q E hr I.env0 (hb s us I.kIn hl) r2 h) fun r s' hq => ?_)
  cases r with
  | error e => exact hx pins σ H s e s' I hq
  | ok fl =>
    cases fl with
    | ret u => exact I.after hq
    | next => exact False.elim hq
    | brk => exact False.elim hq
    | cont => exact False.elim hq
theorem pe_call (F : FnOk X.prog X.w X.K X.mg X.base CX k f fd ps sp) (hr : Room k X.A) (hg : Gl X x) (hm : X.mg x = some (.ref f)) (hk : PySem.W.keepIn X.K (.ref f) = true) (hb : Binds X.K fd ps ds) (hd : Vals dvs ds) (hx : Passes CX X E)
    (ha : PA X (e :: es) t) (hdb : (x == ("__debug__" : Str)) = false := by decide) (he : starEach (e :: es) X.env = (false, eval e X.env) :: starEach es X.env := by rfl) (hpl : (backTo pos (starEach es X.env)).any (·.1) = false := by rfl) :
    PE X (.Call (.Name x p) (e :: es) [] pos) (tCall sp dvs E t) := by
  intro pins s σ H Q I h
  refine wpAny_Call_Name_kw (ld_glob I hg hm ?_ hdb)
  refine PySem.W.callWith_K (h₀ := X.base) I.ok.mod.kin hk (thn (ha pos pins s σ H _ I h) fun us s1 ⟨vs, H1, I1, r, q⟩ => ⟨I1.kIn, ?_⟩) he hpl
  exact run_fn F hr hb hd hx I1 r q
theorem pe_call0 (F : FnOk X.prog X.w X.K X.mg X.base CX k f fd ps sp) (hr : Room k X.A) (hg : Gl X x) (hm : X.mg x = some (.ref f)) (hk : PySem.W.keepIn X.K (.ref f) = true) (hb : Binds X.K fd ps ds) (hd : Vals dvs ds) (hx : Passes CX X E)
    (hdb : (x == ("__debug__" : Str)) = false := by decide) : PE X (.Call (.Name x p) [] [] pos) (tCall sp dvs E tNil) := by
  intro pins s σ H Q I h
  refine wpAny_Call_Name_kw (ld_glob I hg hm ?_ hdb)
  exact PySem.W.callWith_K0 I.kIn hk (run_fn (us := []) F hr hb hd hx I .nil h)
theorem pe_meth {pl : Sem Bool} (he : PE X o ta) (c : Cls X.K C) (hm : Meth X.K C m f) (F : FnOk X.prog X.w X.K X.mg X.base CX k f fd ps sp) (hr : Room k X.A) (hb : Binds X.K fd ps ds) (hd : Vals dvs ds) (hx : Passes CX X E) (ha : PA X (e :: es) t)
    (hst : starEach (e :: es) X.env = (false, eval e X.env) :: starEach es X.env := by rfl) (hpl : (backTo pos (starEach es X.env)).any (·.1) = false := by rfl)
    (ht : eval (.Call (.Attribute o m apos) (e :: es) [] pos) X.env = (do
      let ov ← eval o X.env
      standAt apos.atName
      let (f, first) ← holding [ov] (getMethod ov m pl)
      callWith pos f first (backTo pos (starEach (e :: es) X.env)) (backToKw pos (keywordEach [] X.env))) := by rfl) :
    PE X (.Call (.Attribute o m apos) (e :: es) [] pos) (tMeth C m sp dvs E ta t) := by
  intro pins s σ H Q I h
  refine PySem.W.methodCall_KW (pl := pl) (thn (he pins s σ H _ I h) fun u s1 ⟨x, H1, I1, rx, a, dx, fs, ex, ea, l, q⟩ => ?_) ht
  subst ex
  obtain rfl : u = Value.ref a := rx
  refine getmeth_ok I1 ea c hm l ?_
  refine PySem.W.callWith_K (first := [.ref a]) (h₀ := X.base) I.ok.mod.kin hm.kp (thn (ha pos pins s1 σ H1 _ I1 q) fun us s2 ⟨vs, H2, I2, r, q2⟩ => ⟨I2.kIn, ?_⟩) hst hpl
  exact run_fn (us := .ref a :: us) (vs := .ref a :: vs) F hr hb hd hx I2 (.cons rfl r) q2
theorem pe_meth0 {pl : Sem Bool} (he : PE X o ta) (c : Cls X.K C) (hm : Meth X.K C m f) (F : FnOk X.prog X.w X.K X.mg X.base CX k f fd ps sp) (hr : Room k X.A) (hb : Binds X.K fd ps ds) (hd : Vals dvs ds) (hx : Passes CX X E)
    (ht : eval (.Call (.Attribute o m apos) [] [] pos) X.env = (do
      let ov ← eval o X.env
      standAt apos.atName
      let (f, first) ← holding [ov] (getMethod ov m pl)
      callWith pos f first (backTo pos (starEach [] X.env)) (backToKw pos (keywordEach [] X.env))) := by rfl) :
    PE X (.Call (.Attribute o m apos) [] [] pos) (tMeth C m sp dvs E ta tNil) := by
  intro pins s σ H Q I h
  refine PySem.W.methodCall_KW (pl := pl) (thn (he pins s σ H _ I h) fun u s1 ⟨x, H1, I1, rx, a, dx, fs, ex, ea, l, q⟩ => ?_) ht
  subst ex
  obtain rfl : u = Value.ref a := rx
  refine getmeth_ok I1 ea c hm l ?_
  exact PySem.W.callWith_K0 (first := [.ref a]) I1.kIn hm.kp (run_fn (us := [.ref a]) (vs := [.ref a]) F hr hb hd hx I1 (.cons rfl .nil) q)
structure Mk (K : PySem.W.Frag) (C f : Addr) : Prop where
  makes : PySem.W.makesIn K C = true
  init : PySem.W.findIn K (.ref C) "__init__" = some (some (.ref f))
  fn : PySem.W.isFn K (.ref f) = true
  kp : PySem.W.keepIn K (.ref C) = true
theorem run_make {pins : List (Addr × Obj)} {σ : St} {H : Hp} {s : Shared} {Q : VK} {us : List Value} {vs : List V} (M : Mk X.K C f) (F : FnOk X.prog X.w X.K X.mg X.base CX k f fd ps sp) (hr : Room (k + 1) X.A) (hb : Binds X.K fd ps ds) (hd : Vals dvs ds)
    (hx : Passes CX X E) (I : Inv X pins σ H s) (r : Vals vs us)
    (h : ∀ x dx, H x = none → H dx = none → dx ≠ x → sp (.ref x :: (vs ++ dvs)) (upd (upd H dx (.own x)) x (.ins C dx [])) (fun v H2 => v = .non ∧ Q (.ref x) H2) E) :
    wpAny (model X.prog X.w) X.A (call (.ref C) us) (EP X pins σ Q) X.xe s := by
  have hq := h (s.heap.objs.size + 1) s.heap.objs.size (I.hok.fresh (Nat.le_succ _)) (I.hok.fresh (Nat.le_refl _)) (Nat.ne_of_lt (Nat.lt_succ_self _))
  have I2 := Inv.made (C := C) I
  have r2 : Vals (V.ref (s.heap.objs.size + 1) :: (vs ++ dvs)) (Value.ref (s.heap.objs.size + 1) :: (us ++ ds)) := .cons rfl (r.append hd)
  have hl : (Value.ref (s.heap.objs.size + 1) :: us ++ ds).length = ps.length := by
    have e := r2.length
    rw [F.len _ _ _ _ hq] at e
    exact e.symm
  refine wpAny_call (make_map (f := f) I.kIn M.makes M.init (beq_iff_eq.mp M.fn) (codeAny_mono (F.run _ X.stack _ _ ⟨Value.ref (s.heap.objs.size + 1) :: us, []⟩ (Value.ref (s.heap.objs.size + 1) :: (us ++ ds)) _ _ E (hr.make C us [])
    (I2.env0.make C us []) (hb _ (Value.ref (s.heap.objs.size + 1) :: us) I2.kIn hl) r2 hq) fun r s' hq' => ?_))
  cases r with
  | error e => exact hx pins σ _ _ e s' I2 hq'
  | ok fl =>
    cases fl with
    | ret u =>
      obtain ⟨v, H', I3, rv, ev, q3⟩ := I2.after hq'
      subst ev
      exact ⟨rv, ⟨V.ref (s.heap.objs.size + 1), H', I3, rfl, q3⟩⟩
    | next => exact False.elim hq'
    | brk => exact False.elim hq'
    | cont => exact False.elim hq'
theorem pe_make (M : Mk X.K C f) (F : FnOk X.prog X.w X.K X.mg X.base CX k f fd ps sp) (hr : Room (k + 1) X.A) (hg : Gl X x) (hm : X.mg x = some (.ref C)) (hb : Binds X.K fd ps ds) (hd : Vals dvs ds) (hx : Passes CX X E)
    (ha : PA X (e :: es) t) (hdb : (x == ("__debug__" : Str)) = false := by decide) (he : starEach (e :: es) X.env = (false, eval e X.env) :: starEach es X.env := by rfl) (hpl : (backTo pos (starEach es X.env)).any (·.1) = false := by rfl) :
    PE X (.Call (.Name x p) (e :: es) [] pos) (tMake C sp dvs E t) := by
  intro pins s σ H Q I h
  refine wpAny_Call_Name_kw (ld_glob I hg hm ?_ hdb)
  refine PySem.W.callWith_K (h₀ := X.base) I.ok.mod.kin M.kp (thn (ha pos pins s σ H _ I h) fun us s1 ⟨vs, H1, I1, r, q⟩ => ⟨I1.kIn, ?_⟩) he hpl
  exact run_make M F hr hb hd hx I1 r q
theorem pe_make0 (M : Mk X.K C f) (F : FnOk X.prog X.w X.K X.mg X.base CX k f fd ps sp) (hr : Room (k + 1) X.A) (hg : Gl X x) (hm : X.mg x = some (.ref C)) (hb : Binds X.K fd ps ds) (hd : Vals dvs ds) (hx : Passes CX X E)
    (hdb : (x == ("__debug__" : Str)) = false := by decide) : PE X (.Call (.Name x p) [] [] pos) (tMake C sp dvs E tNil) := by
  intro pins s σ H Q I h
  refine wpAny_Call_Name_kw (ld_glob I hg hm ?_ hdb)
  exact PySem.W.callWith_K0 I.kIn M.kp (run_make (us := []) M F hr hb hd hx I .nil h)
end
structure FnScope (N P : List Str) (sc : Scope) : Prop where
  kind : sc.kind = .function
  co : sc.isCoroutine = false
  gen : sc.isGenerator = false
  nd : N.Nodup
  pre : N.take P.length = P
  par : ∀ x ∈ P, sc.names.lookup x = some .local ∨ sc.names.lookup x = some .cell
  nofree : ∀ y ∈ sc.names, y.2 ≠ .free
theorem bindL_out {kindOf : Str → Option NameKind} {x : Str} : ∀ {binds : List (Str × Value)} {m : Str → Option Value}, (∀ v, (x, v) ∉ binds) → bindL kindOf binds m x = m x
  | [], _, _ => rfl
  | (n, v) :: r, m, h => by
    unfold bindL
    rw [bindL_out fun w hw => h w (List.mem_cons_of_mem _ hw)]
    split
    · have : x ≠ n := by rintro rfl; exact h v List.mem_cons_self
      simp [this]
    · rfl
theorem bindC_out {kindOf : Str → Option NameKind} {x : Str} : ∀ {binds : List (Str × Value)} {m : Str → Option Value}, (∀ v, (x, v) ∉ binds) → bindC kindOf binds m x = m x
  | [], _, _ => rfl
  | (n, v) :: r, m, h => by
    unfold bindC
    rw [bindC_out fun w hw => h w (List.mem_cons_of_mem _ hw)]
    split
    · rfl
    · have : x ≠ n := by rintro rfl; exact h v List.mem_cons_self
      simp [this]
theorem bindL_get {kindOf : Str → Option NameKind} {x : Str} {v : Value} : ∀ {P : List Str} {vs : List Value} {i : Nat} {m : Str → Option Value}, P.Nodup → P[i]? = some x → vs[i]? = some v → kindOf x = some .local →
    bindL kindOf (P.zip vs) m x = some v
  | [], _, _, _, _, h, _, _ => by simp at h
  | _ :: _, [], _, _, _, _, h, _ => by simp at h
  | p :: P, w :: vs, 0, m, nd, h1, h2, hk => by
    simp at h1 h2; subst h1; subst h2
    show bindL kindOf ((p, w) :: P.zip vs) m p = _
    unfold bindL
    rw [bindL_out fun v hv => (List.nodup_cons.mp nd).1 (List.of_mem_zip hv).1, if_pos hk]
    simp
  | p :: P, w :: vs, i + 1, m, nd, h1, h2, hk => by
    show bindL kindOf ((p, w) :: P.zip vs) m x = _
    unfold bindL
    exact bindL_get (i := i) (List.nodup_cons.mp nd).2 (by simpa using h1) (by simpa using h2) hk
theorem bindC_get {kindOf : Str → Option NameKind} {x : Str} {v : Value} : ∀ {P : List Str} {vs : List Value} {i : Nat} {m : Str → Option Value}, P.Nodup → P[i]? = some x → vs[i]? = some v → kindOf x ≠ some .local →
    bindC kindOf (P.zip vs) m x = some v
  | [], _, _, _, _, h, _, _ => by simp at h
  | _ :: _, [], _, _, _, _, h, _ => by simp at h
  | p :: P, w :: vs, 0, m, nd, h1, h2, hk => by
    simp at h1 h2; subst h1; subst h2
    show bindC kindOf ((p, w) :: P.zip vs) m p = _
    unfold bindC
    rw [bindC_out fun v hv => (List.nodup_cons.mp nd).1 (List.of_mem_zip hv).1, if_neg hk]
    simp
  | p :: P, w :: vs, i + 1, m, nd, h1, h2, hk => by
    show bindC kindOf ((p, w) :: P.zip vs) m x = _
    unfold bindC
    exact bindC_get (i := i) (List.nodup_cons.mp nd).2 (by simpa using h1) (by simpa using h2) hk
def start (N : List Str) (vs : List V) : St := vs.map some ++ List.replicate (N.length - vs.length) none
def cxOf (CX : CXT) (P : Program) (w : World) (K : PySem.W.Frag) (mg : Str → Option Value) (base : Heap) (N : List Str) (qual : Str) (scope : Scope) (f : Addr) (cd : Value) (A : Around) (outer : List Env) (s : Shared) (H : Hp) (E : XK) : Cx where
  prog := P
  w := w
  K := K
  mg := mg
  base := base
  A := A.deeper (envOfC qual scope s.heap.objs.size f cd)
  N := N
  s₀ := s
  H₀ := H
  env := envOfC qual scope s.heap.objs.size f cd
  outer := outer
  stack := envOfC qual scope s.heap.objs.size f cd :: outer
  ex := []
  calm := true
  fn := fun _ => true
  pn := []
  xe := fun e s' => wpAny (model P w) (A.deeper (envOfC qual scope s.heap.objs.size f cd)) («leaving» (envOfC qual scope s.heap.objs.size f cd) e) (fun _ s'' => CX outer H s E e s'') (fun e' s'' => CX outer H s E e' s'') s'
theorem cell_has {sc : Scope} {n : Nat} {x : Str} (h : sc.names.lookup x = some .cell) : ∃ c, (cellsFrom n sc.names []).lookup x = some c := by
  have q := PySem.W.cellsFrom_some sc.names n [] (.inl h)
  exact Option.isSome_iff_exists.mp q
theorem inv_start {CX : CXT} {P : Program} {w : World} {K : PySem.W.Frag} {mg : Str → Option Value} {base : Heap} {N ps : List Str} {qual : Str} {scope : Scope} {f : Addr} {cd : Value} {A : Around} {outer : List Env} {s s1 : Shared} {H : Hp} {E : XK} {us : List Value} {vs : List V}
    (S : FnScope N ps scope) (hd : A.handled = none) (e0 : Env0 P w K mg base A outer s H) (hl : vs.length = ps.length) (r : Vals vs us)
    (x : InCallC s s.heap.objs.size (bindL (envOfC qual scope s.heap.objs.size f cd).kindOf (ps.zip us) fun _ => none) (cellsFrom (s.heap.objs.size + 1) scope.names []) (bindC (envOfC qual scope s.heap.objs.size f cd).kindOf (ps.zip us) fun _ => none) s1) :
    Inv (cxOf CX P w K mg base N qual scope f cd A outer s H E) [] (start N vs) H s1 := by
  have hpl : ps.length ≤ N.length := by have := congrArg List.length S.pre; rw [List.length_take] at this; omega
  obtain ⟨h1, tk, rfl, hk⟩ := x.done
  have noA : ∀ b : Addr, b ∉ (cxOf CX P w K mg base N qual scope f cd A outer s H E).ex := fun b z => absurd (show b ∈ ([] : List Addr) from z) (by simp)
  refine ⟨⟨e0.mod, S.kind, rfl, rfl, Nat.le_refl _, fun y z c h1 h2 => ?_, fun y hy => ?_, fun y c _ h => ?_, fun _ => hd, Around.frames_deeper e0.frames, .inr ⟨rfl, rfl⟩, fun b z => absurd z (noA b), e0.bs, e0.bsz, fun b _ _ => noA b, fun b z => absurd z (noA b), e0.funs, e0.frf⟩,
    rfl, e0.bare, Un.kept hk, ⟨_, x.toInCall.ns, fun i y v h1 h2 h3 => ?_⟩, fun y c h => ⟨_, x.cell y c h⟩, e0.hok.fresh (Nat.le_refl _), fun y c h => ?_, fun p hp => absurd (show p ∈ ([] : List (Addr × Obj)) from hp) (by simp), e0.hok.kept hk, ?_⟩
  · exact name_of_addr x.apart (PySem.mem_of_lookup h1) (PySem.mem_of_lookup h2)
  · have hy : scope.names.lookup y = some .cell ∨ scope.names.lookup y = some .free := hy
    rcases hy with hy | hy
    · exact cell_has hy
    · exact absurd rfl (S.nofree _ (PySem.mem_of_lookup hy))
  · exact Nat.le_of_lt (x.above y c (PySem.mem_of_lookup h))
  · have hi : i < vs.length := by
      unfold start at h2
      by_cases hi : i < vs.length
      · exact hi
      · rw [List.getElem?_append_right (by simpa using hi)] at h2
        rw [List.getElem?_replicate] at h2
        split at h2 <;> cases h2
    have ha : vs[i]? = some v := by
      unfold start at h2
      rw [List.getElem?_append_left (by simpa using hi), List.getElem?_map] at h2
      cases e : vs[i]? with
      | none => rw [e] at h2; cases h2
      | some a => rw [e] at h2; cases h2; rfl
    obtain ⟨u, hu, rv⟩ := r.get ha
    have hp : ps[i]? = some y := by
      rw [← S.pre, List.getElem?_take_of_lt (by omega)]; exact h1
    have ndP : ps.Nodup := by rw [← S.pre]; exact S.nd.sublist (List.take_sublist _ _)
    refine ⟨u, rv, ?_⟩
    rcases S.par y (List.mem_of_getElem? hp) with k | k
    · exact .inl ⟨k, bindL_get ndP hp hu k⟩
    · obtain ⟨c, e⟩ := cell_has (n := s.heap.objs.size + 1) k
      refine .inr ⟨.inl k, c, e, ?_⟩
      have q := x.cell y c e
      rw [bindC_get ndP hp hu (by show scope.names.lookup y ≠ _; rw [k]; decide)] at q
      exact q
  · exact e0.hok.fresh (Nat.le_of_lt (x.above y c (PySem.mem_of_lookup h)))
  · unfold start
    show _ = N.length
    rw [List.length_append, List.length_map, List.length_replicate]
    omega
theorem fn_of {CX : CXT} {P : Program} {w : World} {K : PySem.W.Frag} {mg : Str → Option Value} {base : Heap} {k : Nat} {f : Addr} {name qual : Str} {params : Arguments} {body : List Stmt} {scope : Scope} {dV kV doc pm cdv ct oc : Value} {an od : Option Addr}
    {osl : Array (Option Value)} {N ps : List Str} {sp : Sp} (lk : K.lookup f = some ⟨oc, od, .func (PySem.W.fnOf name qual params body scope dV kV doc pm an cdv ct), osl⟩) (hcd : PySem.W.codeIn K cdv qual = true) (S : FnScope N ps scope)
    (len : ∀ vs H Q E, sp vs H Q E → vs.length = ps.length)
    (hbody : ∀ (A : Around) (outer : List Env) (s : Shared) (H : Hp) (vs : List V) (Q : VK) (E : XK), Room k (A.deeper (envOfC qual scope s.heap.objs.size f cdv)) → sp vs H Q E →
      ∃ t, PSs (cxOf CX P w K mg base N qual scope f cdv A outer s H E) body t ∧ t { nx := fun _ H' => Q .non H', rt := Q } (start N vs) H) :
    FnOk P w K mg base CX (k + 1) f (PySem.W.fnOf name qual params body scope dV kV doc pm an cdv ct) ps sp := by
  refine ⟨len, fun A outer s H args us vs Q E hr e0 hb r hsp => ?_⟩
  have hl := len _ _ _ _ hsp
  have KX : K.In s.heap := e0.mod.kin.keeps fun b o e => (e0.bs b o e).1
  have lim : s.heap.NoLimit := e0.mod.nolimit.keeps fun b o e => (e0.bs b o e).1
  have hkind : ∀ y ∈ ps.zip us, scope.names.lookup y.1 = some .local ∨ (scope.names.lookup y.1 = some .cell ∧ ((cellsFrom (s.heap.objs.size + 1) scope.names []).lookup y.1).isSome = true) := fun ⟨n, v⟩ hy => by
    rcases S.par n (List.of_mem_zip hy).1 with q | q
    · exact .inl q
    · exact .inr ⟨q, PySem.W.cellsFrom_some _ _ _ (.inl q)⟩
  refine codeAny_call_function hr.depth (KX _ _ lk) rfl S.co S.gen rfl (PySem.W.codeRec_of KX hcd) (hb _ _ _ _ ?_)
  refine wpAny_newFunctionEnv_cells S.kind hkind fun env he s1 x => ?_
  subst he
  refine ⟨lim.keeps x.toInCall.keep, codeAny_func ?_⟩
  obtain ⟨t, ht, hq⟩ := hbody A outer s H vs Q E (hr.deeper _) hsp
  have I : Inv (cxOf CX P w K mg base N qual scope f cdv A outer s H E) [] (start N vs) H s1 := inv_start S hr.hd e0 hl r x
  refine wpAny_mono (ht [] s1 (start N vs) H _ I hq) (fun fl s' hs => ?_) fun e s' hs => hs
  have fin : ∀ {σ' : St} {H' : Hp} {v : V} {u : Value}, Inv (cxOf CX P w K mg base N qual scope f cdv A outer s H E) [] σ' H' s' → RelV v u → Q v H' → CE outer P w H s Q u s' :=
    fun {σ' H' v u} J rv q => ⟨v, H', J.os, J.bare, J.base, J.hok, rv, q⟩
  cases fl with
  | ret u =>
    obtain ⟨v, σ', H', J, rv, q⟩ := hs
    exact fin J rv q
  | next =>
    obtain ⟨σ', H', J, q⟩ := hs
    exact fin (v := V.non) (u := Value.none) J rfl q
  | brk =>
    obtain ⟨_, _, _, q⟩ := hs
    exact False.elim q
  | cont =>
    obtain ⟨_, _, _, q⟩ := hs
    exact False.elim q
end L2
namespace L2
open PySem PySem.Spec PyProof.Rows
section
variable {X : Cx} {x : Str} {p pos : Pos} {e : Expr} {es : List Expr} {t : TA} {id T : String} {r : List V → Hp → VK → Prop}
def tCB (r : List V → Hp → VK → Prop) (t : TA) : TE := fun σ H Q => t σ H fun vs H1 => r vs H1 Q
theorem pe_callB (hc : CallR X (.builtin id) r) (hg : Gl X x) (hm : X.mg x = none) (hv : bootBuiltins x = some (.builtin id)) (ha : PA X (e :: es) t) (hn : x ≠ "__name__" := by decide) (hdb : (x == ("__debug__" : Str)) = false := by decide)
    (he : starEach (e :: es) X.env = (false, eval e X.env) :: starEach es X.env := by rfl) (hpl : (backTo pos (starEach es X.env)).any (·.1) = false := by rfl) : PE X (.Call (.Name x p) (e :: es) [] pos) (tCB r t) := by
  intro pins s σ H Q I h
  refine wpAny_Call_Name_kw (ld_blt I hg hm hv ?_ hn hdb)
  exact PyProof.Rows.callWith_builtin1 (thn (ha pos pins s σ H _ I h) fun us s1 ⟨vs, H1, I1, r1, q1⟩ => hc pins s1 σ H1 vs us Q I1 r1 q1) he hpl
end
end L2
namespace HT
open PySem PyProof.Rows
section
open PySem.SeqAt
open PySem.AutoSeq1 (wpAny_loadPart')
open PySem.MeetsSeq PySem.MeetsSeq2 PySem.MeetsSeq3
end
section
variable {prog : Program} {w : World} {A : Around} {E : Value → Shared → Prop} {s : Shared}
def sIx (n d : Nat) : Option Int → Nat
  | none => d
  | some v => if v < 0 then (v + (n : Int)).toNat else min v.toNat n
theorem sIx_nat (n d k : Nat) : sIx n d (some (k : Int)) = min k n := by
  show (if (k : Int) < 0 then ((k : Int) + (n : Int)).toNat else min (k : Int).toNat n) = min k n
  rw [if_neg (by omega), Int.toNat_natCast]
end
end HT
namespace L2
open PySem PySem.Spec PyProof.Rows
abbrev TO := St → Hp → (Option Int → Hp → Prop) → Prop
def PO (X : Cx) (e : Option Expr) (t : TO) : Prop :=
  ∀ (pins : List (Addr × Obj)) (s : Shared) (σ : St) (H : Hp) (Q : Option Int → Hp → Prop), Inv X pins σ H s → t σ H Q →
    wpAny (model X.prog X.w) X.A (evalPart e X.env) (fun u s' => ∃ o H', Inv X pins σ H' s' ∧ IsPart u o ∧ Q o H') X.xe s
def tPart (t : TE) : TO := fun σ H Q => t σ H fun x H1 => ∃ i, x = .int i ∧ Q (some i) H1
theorem intsAre_of {ns : List Int} : ∀ {us : List Value}, Vals (ns.map V.int) us → IntsAre us ns := by
  induction ns with
  | nil => intro us r; rw [List.map_nil] at r; cases r; exact .nil
  | cons n ns ih =>
    intro us r
    rw [List.map_cons] at r
    cases r with
    | cons r1 r2 =>
      obtain ⟨t, e⟩ := r1
      subst e
      exact .cons n t (ih r2)
section
variable {X : Cx} {e : Expr} {te : TE} {lo hi : Option Expr} {tl th : TO} {pos p2 : Pos}
theorem po_some (h : PE X e te) : PO X (some e) (tPart te) := by
  intro pins s σ H Q I hw
  rw [evalPart_some]
  refine thn (h pins s σ H _ I hw) fun u s1 ⟨x, H1, I1, r1, q1⟩ => ?_
  obtain ⟨i, rfl, q⟩ := q1
  obtain ⟨t, rfl⟩ := r1
  exact ⟨some i, H1, I1, .int i t, q⟩
def SlR (X : Cx) (r : V → Option Int → Option Int → Hp → VK → Prop) : Prop :=
  ∀ (pins : List (Addr × Obj)) (s : Shared) (σ : St) (H : Hp) (x : V) (v vl vu : Value) (lo hi : Option Int) (sl : Addr) (Q : VK), Inv X pins σ H s → RelV x v → s.heap.IsSliceOf sl vl vu .none → IsPart vl lo → IsPart vu hi → r x lo hi H Q →
    ∃ T id, typeLookup (.type T) "__getitem__" = pure (some (.builtin id)) ∧ s.TypeIs v T ∧ wpAny (model X.prog X.w) X.A (getItem v (.ref sl)) (EP X pins σ Q) X.xe s
def tSl (r : V → Option Int → Option Int → Hp → VK → Prop) (te : TE) (tl th : TO) : TE := fun σ H Q => te σ H fun x H1 => tl σ H1 fun l H2 => th σ H2 fun u H3 => r x l u H3 Q
theorem pe_slice {r : V → Option Int → Option Int → Hp → VK → Prop} (hr : SlR X r) (he : PE X e te) (hl : PO X lo tl) (hu : PO X hi th) : PE X (.Subscript e (.Slice lo hi none p2) pos) (tSl r te tl th) := by
  intro pins s σ H Q I h
  refine Subscript_ (thn (he pins s σ H _ I h) fun v s1 ⟨x, H1, I1, r1, q1⟩ => ?_)
  refine wpAny_Slice (thn (hl pins s1 σ H1 _ I1 q1) fun vl s2 ⟨l, H2, I2, pl, q2⟩ => thn (hu pins s2 σ H2 _ I2 q2) fun vu s3 ⟨u, H3, I3, pu, q3⟩ => ?_)
  rw [evalPart_none]
  refine wpAny_pure ?_
  have I4 : Inv X pins σ H3 { s3 with heap := s3.heap.push { cls := .type "slice", data := .fields #[vl, vu, .none] } } := I3.kept (t' := s3.toks) fun b ob q => Heap.get?_push_of_some _ q
  obtain ⟨T, id, hT, ht, hg⟩ := hr pins { s3 with heap := s3.heap.push { cls := .type "slice", data := .fields #[vl, vu, .none] } } σ H3 x v vl vu l u s3.heap.objs.size Q I4 r1 (Heap.IsSliceOf.new ..) pl pu q3
  show wpAny (model X.prog X.w) X.A (subscriptTail e (.Slice lo hi none p2) v (.ref s3.heap.objs.size)) (EP X pins σ Q) X.xe { s3 with heap := s3.heap.push { cls := .type "slice", data := .fields #[vl, vu, .none] } }
  exact tail_any (ops := [.ref s3.heap.objs.size, v]) ht hT hg (by with_unfolding_all rfl)
def cutV (xs : List V) (lo hi : Option Int) : List V := (xs.drop (HT.sIx xs.length 0 lo)).take (HT.sIx xs.length xs.length hi - HT.sIx xs.length 0 lo)
theorem cutV_length (xs : List V) (lo hi : Option Int) : (cutV xs lo hi).length ≤ xs.length := by
  unfold cutV
  rw [List.length_take, List.length_drop]
  omega
end
end L2
namespace L2
open PySem PySem.Spec PyProof.Rows
def ixN (n : Nat) (i : Int) : Option Nat := if 0 ≤ i then (if i < n then some i.toNat else none) else if -(n : Int) ≤ i then some (i + n).toNat else none
def atI {α : Type} (xs : List α) (i : Int) : Option α := (ixN xs.length i).bind fun j => xs[j]?
theorem ixN_seq {n : Nat} {i : Int} {j : Nat} (h : ixN n i = some j) : seqIndex? i n = some j ∧ j < n ∧ -(n : Int) ≤ i ∧ i < n := by
  unfold ixN at h
  by_cases h0 : 0 ≤ i
  · rw [if_pos h0] at h
    by_cases h1 : i < n
    · rw [if_pos h1] at h
      have e : i.toNat = j := Option.some.inj h
      exact ⟨by rw [seqIndex_of h0 h1, e], by omega, by omega, h1⟩
    · rw [if_neg h1] at h; cases h
  · rw [if_neg h0] at h
    by_cases h1 : -(n : Int) ≤ i
    · rw [if_pos h1] at h
      have e : (i + n).toNat = j := Option.some.inj h
      exact ⟨by rw [seqIndex_neg (by omega) h1, e], by omega, h1, by omega⟩
    · rw [if_neg h1] at h; cases h
theorem atI_get {α : Type} {xs : List α} {i : Int} {v : α} (h : atI xs i = some v) : ∃ j, seqIndex? i xs.length = some j ∧ xs[j]? = some v ∧ j < xs.length ∧ -(xs.length : Int) ≤ i ∧ i < xs.length := by
  unfold atI at h
  cases e : ixN xs.length i with
  | none => rw [e] at h; cases h
  | some j =>
    rw [e] at h
    obtain ⟨h1, h2, h3, h4⟩ := ixN_seq e
    exact ⟨j, h1, h, h2, h3, h4⟩
theorem atI_nat {α : Type} {xs : List α} {j : Nat} {v : α} (h : xs[j]? = some v) : atI xs (j : Int) = some v := by
  have hj : j < xs.length := (List.getElem?_eq_some_iff.mp h).1
  have e : ixN xs.length (j : Int) = some j := by
    unfold ixN
    rw [if_pos (by omega), if_pos (by omega)]; simp
  unfold atI; rw [e]; exact h
def PlainIx (b : Expr) : Prop := ∀ o i, subscripted b false o i = operate [o, i] (getItem o i)
def IxR (X : Cx) (r : R2) : Prop :=
  ∀ (value slice : Expr) (pins : List (Addr × Obj)) (s : Shared) (σ : St) (H : Hp) (x y : V) (v u : Value) (Q : VK), Inv X pins σ H s → RelV x v → RelV y u → r x y H Q →
    subscripted slice false v u = operate [v, u] (getItem v u) → wpAny (model X.prog X.w) X.A (subscriptTail value slice v u) (EP X pins σ Q) X.xe s
def MtR (X : Cx) (id : String) (r : V → List V → Hp → VK → Prop) : Prop :=
  ∀ (pins : List (Addr × Obj)) (s : Shared) (σ : St) (H : Hp) (x : V) (xs : List V) (v : Value) (us : List Value) (Q : VK), Inv X pins σ H s → RelV x v → Vals xs us → r x xs H Q →
    wpAny (model X.prog X.w) X.A (call (.builtin id) (v :: us)) (EP X pins σ Q) X.xe s
section
variable {X : Cx} {a b : Expr} {ta tb : TE} {pos : Pos}
theorem pe_ix {r : R2} (hr : IxR X r) (ha : PE X a ta) (hb : PE X b tb) (hs : PlainIx b) : PE X (.Subscript a b pos) (tOp r ta tb) := by
  intro pins s σ H Q I h
  exact Subscript_ (binT ha hb I h fun v u s2 x y H2 I2 rx ry q => hr a b pins s2 σ H2 x y v u Q I2 rx ry q (hs _ _))
def rIxL (K : PySem.W.Frag) : R2 := fun x y H Q => ∃ p xs i v, x = .ref p ∧ y = .int i ∧ SqL K H p xs ∧ atI xs i = some v ∧ Q v H
def rIxT (K : PySem.W.Frag) : R2 := fun x y H Q => ∃ p xs i v, x = .ref p ∧ y = .int i ∧ SqT K H p xs ∧ atI xs i = some v ∧ Q v H
theorem ix_list : IxR X (rIxL X.K) := by
  intro value slice pins s σ H x y v u Q I rx ry h hs
  obtain ⟨p, xs, i, z, rfl, rfl, hq, he, q⟩ := h
  cases rx
  obtain ⟨t, rfl⟩ := ry
  obtain ⟨its, r, pl, hz⟩ := I.list hq
  obtain ⟨j, h1, h2, h3, h4, h5⟩ := atI_get he
  obtain ⟨w, ew, rw'⟩ := r.get h2
  have hl := r.length
  have hn := line63
  have fin : EP X pins σ Q w s := ⟨z, H, I, rw', q⟩
  by_cases h0 : 0 ≤ i
  · have hj : i.toNat = j := by
      rw [seqIndex_of h0 h5] at h1
      exact Option.some.inj h1
    exact item_listR pl.isList h0 (by omega) (by rw [hj]; simpa using ew) fin hs
  · have hj : (i + (its.toArray.size : Int)).toNat = j := by
      rw [seqIndex_neg (by omega) h4] at h1
      rw [List.size_toArray, ← hl]
      exact Option.some.inj h1
    exact subscriptTail_builtinR (x := w) pl.isList.typeIs slot_list_getitem.lookup
      (wpAny_getItem_list_neg (Q := fun r s' => r = w ∧ EP X pins σ Q r s') pl.isList (by omega) (by rw [List.size_toArray] <;> omega) (by omega) (by rw [hj]; simpa using ew) ⟨rfl, fin⟩) hs
theorem ix_tup : IxR X (rIxT X.K) := by
  intro value slice pins s σ H x y v u Q I rx ry h hs
  obtain ⟨p, xs, i, z, rfl, rfl, hq, he, q⟩ := h
  cases rx
  obtain ⟨t, rfl⟩ := ry
  obtain ⟨its, r, pl, hz⟩ := I.tuple hq
  obtain ⟨j, h1, h2, h3, h4, h5⟩ := atI_get he
  obtain ⟨w, ew, rw'⟩ := r.get h2
  have hl := r.length
  have hn := line63
  have fin : EP X pins σ Q w s := ⟨z, H, I, rw', q⟩
  exact subscriptTail_builtinR (x := w) pl.typeIs slot_tuple_getitem.lookup
    (getItem_tuple (j := j) (Q := fun r s' => r = w ∧ EP X pins σ Q r s') pl (by omega) (by omega) (by rw [List.size_toArray, ← hl]; exact h1) (by simpa using ew) ⟨rfl, fin⟩) hs
theorem mapSeq_set (its : List Value) (n j : Nat) (u : Value) : Obj.mapSeq (·.setIfInBounds j u) { cls := .type "list", data := .seq its.toArray n } = { cls := .type "list", data := .seq (its.set j u).toArray n } := by
  simp [Obj.mapSeq]
theorem Inv.lst {pins : List (Addr × Obj)} {σ : St} {H : Hp} {s : Shared} {p : Addr} {xs : List V} (I : Inv X pins σ H s) (h : H p = some (.lst xs)) :
    ∃ (its : List Value) (n : Nat), Vals xs its ∧ s.heap.get? p = some { cls := .type "list", data := .seq its.toArray n } ∧ xs.length ≤ sizeLine := by
  obtain ⟨z, its, n, r, e⟩ := I.hok p _ h
  exact ⟨its, n, r, e, z⟩
theorem Inv.lstUpd {pins : List (Addr × Obj)} {σ : St} {H : Hp} {s : Shared} {p : Addr} {xs ys : List V} {its its' : List Value} {n n' : Nat} {f : Obj → Obj} (I : Inv X pins σ H s) (h : H p = some (.lst xs))
    (ho : s.heap.get? p = some { cls := .type "list", data := .seq its.toArray n }) (hf : f { cls := .type "list", data := .seq its.toArray n } = { cls := .type "list", data := .seq its'.toArray n' }) (r : Vals ys its') (hz : ys.length ≤ sizeLine) (t : Nat) :
    Inv X pins σ (upd H p (.lst ys)) { s with heap := s.heap.update p f, toks := t } := by
  have e : (s.heap.update p f).get? p = some { cls := .type "list", data := .seq its'.toArray n' } := by
    rw [Heap.get?_update_self f ho (by rw [hf] <;> rfl), hf]
  refine I.write (x := p) (e := p) (by rw [h]; trivial) (.inl rfl) (fun b u hb q => (Heap.get?_update_other _ _ (Ne.symm hb)).trans q) ⟨_, e⟩ ?_
  exact ⟨hz, its', n', r, e⟩
def rSetL : V → V → V → Hp → (Hp → Prop) → Prop := fun o i v H Q => ∃ p xs k j, o = .ref p ∧ i = .int k ∧ H p = some (.lst xs) ∧ ixN xs.length k = some j ∧ Q (upd H p (.lst (xs.set j v)))
theorem set_list : PSet X rSetL := by
  intro pins s σ H o i v ov iv u Q I ro ri rv h
  obtain ⟨p, xs, k, j, rfl, rfl, hp, hj, q⟩ := h
  cases ro
  obtain ⟨t, rfl⟩ := ri
  obtain ⟨its, n, r, ho, hz⟩ := I.lst hp
  obtain ⟨h1, h2, h3, h4⟩ := ixN_seq hj
  have hl := r.length
  have hn := line63
  have I' : Inv X pins σ (upd H p (.lst (xs.set j v))) { s with heap := s.heap.update p (Obj.mapSeq (·.setIfInBounds j u)) } :=
    I.lstUpd hp ho (mapSeq_set its n j u) (r.set rv j) (by rw [List.length_set]; exact hz) s.toks
  by_cases h0 : 0 ≤ k
  · have hk : k.toNat = j := by
      rw [seqIndex_of h0 h4] at h1
      exact Option.some.inj h1
    exact PySem.W.ki_setAt ho h0 (by omega) (by rw [List.size_toArray, ← hl]; exact h4) (by rw [hk]; exact ⟨_, I', q⟩)
  · have hk : (k + (its.toArray.size : Int)).toNat = j := by
      rw [seqIndex_neg (by omega) h3] at h1
      rw [List.size_toArray, ← hl]
      exact Option.some.inj h1
    exact PySem.W.ki_setBack ho (by omega) (by rw [List.size_toArray, ← hl]; exact h3) (by omega) (by rw [hk]; exact ⟨_, I', q⟩)
theorem slice_bounds (lo hi : Option Int) (n : Nat) : (sliceBounds lo hi none n).1 = ((HT.sIx n 0 lo : Nat) : Int) ∧ (sliceBounds lo hi none n).2.1 = ((HT.sIx n n hi : Nat) : Int) ∧ (sliceBounds lo hi none n).2.2 = 1 := by
  refine ⟨?_, ?_, rfl⟩
  · cases lo with
    | none => simp [sliceBounds, HT.sIx]
    | some i =>
      simp only [sliceBounds, HT.sIx, Option.getD_none, show (1 : Int) > 0 by decide, if_true]
      by_cases h : i < 0
      · simp only [h, if_true] <;> omega
      · simp only [h, if_false] <;> omega
  · cases hi with
    | none => simp [sliceBounds, HT.sIx]
    | some i =>
      simp only [sliceBounds, HT.sIx, Option.getD_none, show (1 : Int) > 0 by decide, if_true]
      by_cases h : i < 0
      · simp only [h, if_true] <;> omega
      · simp only [h, if_false] <;> omega
theorem slicePick_cut (its : List Value) (lo hi : Option Int) : slicePick its.toArray lo hi none = ((its.drop (HT.sIx its.length 0 lo)).take (HT.sIx its.length its.length hi - HT.sIx its.length 0 lo)).toArray := by
  obtain ⟨h1, h2, h3⟩ := slice_bounds lo hi its.toArray.size
  unfold slicePick
  rw [h1, h2, h3]
  simp only [sliceRange_one, pick_run, List.size_toArray] <;> rfl
def rSlL (K : PySem.W.Frag) : V → Option Int → Option Int → Hp → VK → Prop := fun x lo hi H Q => ∃ a xs, x = .ref a ∧ SqL K H a xs ∧ ∀ p, H p = none → Q (.ref p) (upd H p (.lst (cutV xs lo hi)))
theorem sl_list : SlR X (rSlL X.K) := by
  intro pins s σ H x v vl vu lo hi sl Q I rx hs pl pu h
  obtain ⟨a, xs, rfl, hx, q⟩ := h
  cases rx
  obtain ⟨its, r, ht, hz⟩ := I.list hx
  have hlen := r.length
  refine ⟨"list", _, slot_list_getitem.lookup, ht.isList.typeIs, ?_⟩
  refine wpAny_getItem_list_slice ht.isList hs pl pu .none (by simp) ?_ (by rw [List.size_toArray] <;> omega)
  rw [slicePick_cut, ← hlen]
  refine ⟨.ref s.heap.objs.size, _, I.laid (t' := s.toks) (o := .lst (cutV xs lo hi)) (fun b ob q => Heap.get?_push_of_some _ q) (Nat.le_refl _) ?_, rfl, q _ (I.hok.fresh (Nat.le_refl _))⟩
  exact ⟨Nat.le_trans (cutV_length xs lo hi) hz, _, 0, (r.drop (HT.sIx xs.length 0 lo)).take (HT.sIx xs.length xs.length hi - HT.sIx xs.length 0 lo), Heap.get?_push_size _ rfl⟩
def flatV : V → Bool
  | .non => true
  | .bl _ => true
  | .int _ => true
  | .str _ => true
  | _ => false
def eqV : V → V → Bool
  | .non, .non => true
  | .bl a, .bl b => a == b
  | .bl a, .int b => (if a then 1 else 0) == b
  | .int a, .bl b => a == (if b then 1 else 0)
  | .int a, .int b => a == b
  | .str a, .str b => a == b
  | _, _ => false
theorem eqAt_V {A : Around} {s : Shared} {y x : V} {u v : Value} (ry : RelV y u) (rx : RelV x v) (fy : flatV y = true) (fx : flatV x = true) : SeqAt.EqAt A s u v (eqV y x) := by
  cases y with
  | non =>
    cases ry
    cases x with
    | non => cases rx; exact SeqAt.EqAt.same _
    | bl b => cases rx; exact SeqAt.EqAt.none_bool b
    | int b => obtain ⟨t, rfl⟩ := rx; exact SeqAt.EqAt.none_int b t
    | str b => obtain ⟨t, rfl⟩ := rx; exact SeqAt.EqAt.none_str b t
    | _ => exact absurd (show false = true from fx) Bool.false_ne_true
  | bl a =>
    cases ry
    cases x with
    | non => cases rx; exact SeqAt.EqAt.bool_none a
    | bl b => cases rx; exact SeqAt.EqAt.bool_bool a b
    | int b => obtain ⟨t, rfl⟩ := rx; exact SeqAt.EqAt.bool_int a b t
    | str b => obtain ⟨t, rfl⟩ := rx; exact SeqAt.EqAt.bool_str a b t
    | _ => exact absurd (show false = true from fx) Bool.false_ne_true
  | int a =>
    obtain ⟨t', rfl⟩ := ry
    cases x with
    | non => cases rx; exact SeqAt.EqAt.int_none a t'
    | bl b => cases rx; exact SeqAt.EqAt.int_bool a t' b
    | int b => obtain ⟨t, rfl⟩ := rx; exact SeqAt.EqAt.int_int a t' b t
    | str b => obtain ⟨t, rfl⟩ := rx; exact SeqAt.EqAt.int_str a t' b t
    | _ => exact absurd (show false = true from fx) Bool.false_ne_true
  | str a =>
    obtain ⟨t', rfl⟩ := ry
    cases x with
    | non => cases rx; exact SeqAt.EqAt.str_none a t'
    | bl b => cases rx; exact SeqAt.EqAt.str_bool a t' b
    | int b => obtain ⟨t, rfl⟩ := rx; exact SeqAt.EqAt.str_int a t' b t
    | str b => obtain ⟨t, rfl⟩ := rx; exact SeqAt.EqAt.str_str a t' b t
    | _ => exact absurd (show false = true from fx) Bool.false_ne_true
  | _ => exact absurd (show false = true from fy) Bool.false_ne_true
def eqU (x : V) (u : Value) : Bool := match u with
  | .none => eqV .non x
  | .bool b => eqV (.bl b) x
  | .int i _ => eqV (.int i) x
  | .str z _ => eqV (.str z) x
  | _ => false
theorem eqU_of {x y : V} {u : Value} (r : RelV y u) (f : flatV y = true) : eqU x u = eqV y x := by
  cases y with
  | non => cases r; rfl
  | bl b => cases r; rfl
  | int i => obtain ⟨t, rfl⟩ := r; rfl
  | str z => obtain ⟨t, rfl⟩ := r; rfl
  | _ => exact absurd (show false = true from f) Bool.false_ne_true
theorem any_eqU {x : V} : ∀ {xs : List V} {us : List Value}, Vals xs us → xs.all flatV = true → us.any (eqU x) = xs.any fun y => eqV y x
  | _, _, .nil, _ => rfl
  | y :: xs, u :: us, .cons r t, f => by
    rw [List.all_cons, Bool.and_eq_true] at f
    rw [List.any_cons, List.any_cons, eqU_of r f.1, any_eqU t f.2]
theorem mem_eqAt {A : Around} {s : Shared} {x : V} {v : Value} (rx : RelV x v) (fx : flatV x = true) : ∀ {xs : List V} {us : List Value}, Vals xs us → xs.all flatV = true → ∀ u ∈ us, SeqAt.EqAt A s u v (eqU x u)
  | _, _, .nil, _ => fun u hu => by cases hu
  | y :: xs, u :: us, .cons r t, f => fun u' hu => by
    rw [List.all_cons, Bool.and_eq_true] at f
    rcases List.mem_cons.mp hu with rfl | hu
    · rw [eqU_of r f.1]; exact eqAt_V r rx f.1 fx
    · exact mem_eqAt rx fx t f.2 u' hu
def inV (x : V) (xs : List V) : Bool := xs.any fun y => eqV y x
def rIn (K : PySem.W.Frag) (neg : Bool) : R2 := fun x y H Q => ∃ p xs, y = .ref p ∧ (SqL K H p xs ∨ SqT K H p xs) ∧ flatV x = true ∧ xs.all flatV = true ∧ Q (.bl (if neg then !inV x xs else inV x xs)) H
theorem op_in_seq : OpR X (compareOp .In) (rIn X.K false) := by
  intro pins s σ H x y v u Q I rx ry h
  obtain ⟨p, xs, rfl, hq, fx, fs, q⟩ := h
  cases ry
  rcases hq with hq | hq
  · obtain ⟨its, r, pl, hz⟩ := I.list hq
    refine SeqAt.in_listAt (eqU x) pl.isList (fun w hw => mem_eqAt rx fx r fs w (by simpa using hw)) ⟨.bl _, H, I, rfl, ?_⟩
    rw [show its.toArray.any (eqU x) = its.any (eqU x) by simp, any_eqU r fs]
    exact q
  · obtain ⟨its, r, pl, hz⟩ := I.tuple hq
    refine SeqAt.in_tupleAt (eqU x) pl (fun w hw => mem_eqAt rx fx r fs w (by simpa using hw)) ⟨.bl _, H, I, rfl, ?_⟩
    rw [show its.toArray.any (eqU x) = its.any (eqU x) by simp, any_eqU r fs]
    exact q
theorem call_len_seq : CallR X (.builtin "len") (fun xs H Q => ∃ p ys, xs = [.ref p] ∧ (SqL X.K H p ys ∨ SqT X.K H p ys) ∧ Q (.int ys.length) H) := by
  intro pins s σ H xs us Q I r h
  obtain ⟨p, ys, rfl, hq, q⟩ := h
  obtain ⟨u, rfl, rx⟩ := vals1 r
  cases rx
  have hn := line63
  rcases hq with hq | hq
  · obtain ⟨its, r', pl, hz⟩ := I.list hq
    have hlen := r'.length
    exact Calls.call_len_list pl.isList (by simp only [List.size_toArray] <;> omega) ⟨.int ys.length, H, I.tok _, ⟨s.toks + 1, by rw [List.size_toArray, hlen]⟩, q⟩
  · obtain ⟨its, r', pl, hz⟩ := I.tuple hq
    have hlen := r'.length
    exact len_tuple pl (by simp only [List.size_toArray] <;> omega) ⟨.int ys.length, H, I.tok _, ⟨s.toks + 1, by rw [List.size_toArray, hlen]⟩, q⟩
def tyV (K : PySem.W.Frag) (T : String) (x : V) (H : Hp) : Prop := match x with
  | .str _ => T = "str"
  | .int _ => T = "int"
  | .ref p => (T = "list" ∧ ∃ xs, SqL K H p xs) ∨ (T = "tuple" ∧ ∃ o, K.lookup p = some o ∧ o.cls = .type "tuple" ∧ o.dict = none) ∨
      (T = "dict" ∧ ((∃ kvs, H p = some (.dK kvs)) ∨ ∃ kvs, H p = some (.dT kvs))) ∨ (T = "set" ∧ ∃ S n, H p = some (.set S n))
  | _ => False
theorem tyV_is {pins : List (Addr × Obj)} {σ : St} {H : Hp} {s : Shared} {T : String} {x : V} {v : Value} (I : Inv X pins σ H s) (r : RelV x v) (ty : tyV X.K T x H) :
    s.TypeIs v T ∧ ∀ a, v = .ref a → ∃ ob, s.heap.get? a = some ob ∧ ob.dict = none := by
  cases x with
  | str z =>
    obtain ⟨t, rfl⟩ := r
    cases (show T = "str" from ty)
    exact ⟨typeIs_str s z t, fun _ e => nomatch e⟩
  | int i =>
    obtain ⟨t, rfl⟩ := r
    cases (show T = "int" from ty)
    exact ⟨typeIs_int s i t, fun _ e => nomatch e⟩
  | ref p =>
    cases r
    rcases ty with ⟨rfl, xs, hq⟩ | ⟨rfl, o, hk, hc, hd⟩ | ⟨rfl, hk⟩ | ⟨rfl, S, n, hk⟩
    · obtain ⟨its, _, pl, _⟩ := I.list hq
      refine ⟨pl.isList.typeIs, fun a e => ?_⟩
      cases e
      obtain ⟨o, n, e, c, hd, _⟩ := pl
      exact ⟨o, e, hd⟩
    · refine ⟨⟨o, I.kIn p o hk, hc⟩, fun a e => ?_⟩
      cases e
      exact ⟨o, I.kIn _ o hk, hd⟩
    · have z : ∃ o, s.heap.get? p = some o ∧ o.ExactDict := by
        rcases hk with ⟨kvs, hk⟩ | ⟨kvs, hk⟩
        · obtain ⟨_, _, _, _, o, _, _, e, ex, _⟩ := I.hok p _ hk
          exact ⟨o, e, ex⟩
        · obtain ⟨_, _, _, _, o, _, _, e, ex, _⟩ := I.hok p _ hk
          exact ⟨o, e, ex⟩
      obtain ⟨o, e, ex⟩ := z
      refine ⟨⟨o, e, ex.1⟩, fun a e2 => ?_⟩
      cases e2
      exact ⟨o, e, ex.2.1⟩
    · obtain ⟨o, _, _, _, e, ex, _⟩ := I.hok p _ hk
      refine ⟨⟨o, e, ex.1⟩, fun a e2 => ?_⟩
      cases e2
      exact ⟨o, e, ex.2.1⟩
  | _ => exact False.elim ty
def tBM0 (K : PySem.W.Frag) (T : String) (r : V → List V → Hp → VK → Prop) (to : TE) : TE := fun σ H Q => to σ H fun x H1 => tyV K T x H1 ∧ r x [] H1 Q
def tBM (K : PySem.W.Frag) (T : String) (r : V → List V → Hp → VK → Prop) (to : TE) (t : TA) : TE := fun σ H Q => to σ H fun x H1 => tyV K T x H1 ∧ t σ H1 fun xs H2 => r x xs H2 Q
variable {o e : Expr} {es : List Expr} {to : TE} {t : TA} {name : Str} {apos cpos : Pos} {T id : String} {r : V → List V → Hp → VK → Prop}
theorem pe_bm0 (pa : PlainAttrs T) (slot : Slot T name id) (hty : typeOf (.builtin id) = pure (.type "method_descriptor")) (hm : MtR X id r) (ho : PE X o to)
    (hbase : attributeBase o name X.env (eval o X.env) = eval o X.env := by rfl) (hline : (apos.endLine == cpos.line) = true := by rfl) : PE X (.Call (.Attribute o name apos) [] [] cpos) (tBM0 X.K T r to) := by
  intro pins s σ H Q I h
  refine wpAny_Call_method0_late hbase hline (thn (ho pins s σ H _ I h) fun v s1 ⟨x, H1, I1, r1, ty, q1⟩ => ?_)
  obtain ⟨h1, h2⟩ := tyV_is I1 r1 ty
  exact ⟨T, id, pa, slot, hty, h1, h2, Calls.callWith_builtin rfl (PySem.evalArgs_none (hm pins s1 σ H1 x [] v [] Q I1 r1 .nil q1))⟩
theorem pe_bm (pa : PlainAttrs T) (slot : Slot T name id) (hty : typeOf (.builtin id) = pure (.type "method_descriptor")) (hm : MtR X id r) (ho : PE X o to) (ha : PA X (e :: es) t)
    (hbase : attributeBase o name X.env (eval o X.env) = eval o X.env := by rfl)
    (hfew : ((backTo cpos (starEach (e :: es) X.env)).all (fun x => !x.1) && (backToKw cpos (keywordEach [] X.env)).all (fun x => x.1.isSome)
      && decide ((e :: es).length + ([] : List Keyword).length + (if ([] : List Keyword).isEmpty then 0 else 1) < 30)) = true := by rfl)
    (hline : (apos.endLine == cpos.line) = true := by rfl) (hs : starEach (e :: es) X.env = (false, eval e X.env) :: starEach es X.env := by rfl) (hplain : (backTo cpos (starEach es X.env)).any (·.1) = false := by rfl) :
    PE X (.Call (.Attribute o name apos) (e :: es) [] cpos) (tBM X.K T r to t) := by
  intro pins s σ H Q I h
  refine wpAny_Call_method_late hbase hfew hline rfl (thn (ho pins s σ H _ I h) fun v s1 ⟨x, H1, I1, r1, ty, q1⟩ => ?_)
  obtain ⟨h1, h2⟩ := tyV_is I1 r1 ty
  refine ⟨T, id, pa, slot, hty, h1, h2, ?_⟩
  have hA := ha cpos pins s1 σ H1 _ I1 q1
  rw [hs] at hA ⊢
  refine Calls.callWith_builtin (by show (false || (backTo cpos (starEach es X.env)).any (·.1)) = false; rw [hplain] <;> rfl) (Calls.evalArgs_plain ?_)
  exact thn hA fun us s2 ⟨vs, H2, I2, r2, q2⟩ => hm pins s2 σ H2 x vs v us Q I2 r1 r2 q2
end
end L2
namespace L2
open PySem PySem.Spec PyProof.Rows
def MtM (X : Cx) (id : String) (r : V → List V → Hp → VK → Prop) : Prop :=
  ∀ (pins : List (Addr × Obj)) (s : Shared) (σ : St) (H : Hp) (x : V) (xs : List V) (v : Value) (us : List Value) (Q : VK), Inv X pins σ H s → RelV x v → Vals xs us → r x xs H Q →
    wpAny (model X.prog X.w) X.A (call (.builtin id) (v :: us)) (EP X pins σ Q) X.xe s
theorem Vals.one : ∀ {x : V} {us : List Value}, Vals [x] us → ∃ u, us = [u] ∧ RelV x u
  | _, _, .cons r .nil => ⟨_, rfl, r⟩
theorem Vals.zero : ∀ {us : List Value}, Vals [] us → us = []
  | _, .nil => rfl
theorem Vals.rep {xs : List V} {us : List Value} (h : Vals xs us) : ∀ k : Nat, Vals (List.replicate k xs).flatten (List.replicate k us).flatten
  | 0 => .nil
  | k + 1 => by
    rw [List.replicate_succ, List.replicate_succ, List.flatten_cons, List.flatten_cons]
    exact Vals.append h (Vals.rep h k)
theorem foldl_rep (its : List Value) : ∀ (k : Nat) (acc : List Value),
    List.foldl (fun x1 x2 => x1 ++ x2) acc.toArray (List.replicate k its.toArray) = (acc ++ (List.replicate k its).flatten).toArray
  | 0, acc => by simp
  | k + 1, acc => by
    have e : acc.toArray ++ its.toArray = (acc ++ its).toArray := by simp
    have e2 : (acc ++ its) ++ (List.replicate k its).flatten = acc ++ (List.replicate (k + 1) its).flatten := by
      rw [List.replicate_succ, List.flatten_cons, List.append_assoc]
    rw [← e2, ← foldl_rep its k (acc ++ its), ← e, List.replicate_succ, List.foldl_cons]
section
variable {X : Cx} {pins : List (Addr × Obj)} {σ : St} {H : Hp} {s : Shared} {l b : Addr} {xs ys zs : List V}
theorem Inv.lset {its its' : List Value} {n : Nat} {f : Array Value → Array Value} {t' : Nat} (I : Inv X pins σ H s) (hH : H l = some (.lst xs))
    (e : s.heap.get? l = some { cls := .type "list", data := .seq its.toArray n }) (hf : f its.toArray = its'.toArray) (hv : Vals ys its') (hz : ys.length ≤ sizeLine) :
    Inv X pins σ (upd H l (.lst ys)) { s with heap := s.heap.update l (Obj.mapSeq f), toks := t' } := by
  have q := PySem.IsL.update e f
  rw [hf] at q
  refine I.write (x := l) (e := l) (by rw [hH]; exact trivial) (.inl rfl) (fun b' u hb hu => (Heap.get?_update_other s.heap (Obj.mapSeq f) (Ne.symm hb)).trans hu) ⟨_, q⟩ ?_
  exact ⟨hz, its', _, hv, q⟩
theorem Inv.lnew {its : List Value} {t' : Nat} (I : Inv X pins σ H s) (hv : Vals ys its) (hz : ys.length ≤ sizeLine) :
    Inv X pins σ (upd H s.heap.objs.size (.lst ys)) { s with heap := s.heap.push { cls := .type "list", data := .seq its.toArray }, toks := t' } :=
  I.laid (fun _ _ q => Heap.get?_push_of_some _ q) (Nat.le_refl _) ⟨hz, its, 0, hv, Heap.get?_push_size _ rfl⟩
theorem Inv.fresh (I : Inv X pins σ H s) : H s.heap.objs.size = none := I.hok.fresh (Nat.le_refl _)
theorem Inv.lstM (I : Inv X pins σ H s) (hH : H l = some (.lst xs)) : xs.length ≤ sizeLine ∧ ∃ (its : List Value) (n : Nat), Vals xs its ∧ xs.length = its.length ∧ s.heap.get? l = some { cls := .type "list", data := .seq its.toArray n } := by
  obtain ⟨z, its, n, r, e⟩ := I.hok l _ hH
  exact ⟨z, its, n, r, r.length, e⟩
theorem notLongL {n : Nat} (h : n ≤ sizeLine) : Builtin.List.listTooLong n = false := by
  unfold Builtin.List.listTooLong
  exact decide_eq_false (by omega)
end
section
variable {X : Cx}
def rAppend : V → List V → Hp → VK → Prop := fun x vs H Q => ∃ l xs y, x = .ref l ∧ vs = [y] ∧ H l = some (.lst xs) ∧ xs.length < sizeLine ∧ Q .non (upd H l (.lst (xs ++ [y])))
theorem mt_append : MtM X "list.append" rAppend := by
  intro pins s σ H x vs v us Q I rx rv h
  obtain ⟨l, xs, y, rfl, rfl, hH, hz, q⟩ := h
  cases rx
  obtain ⟨u, rfl, ru⟩ := rv.one
  obtain ⟨z, its, n, r, hl, e⟩ := I.lstM hH
  refine call_meets F.slot_list_append ⟨_, e, rfl⟩ F.entry_list_append (F.args_list_append_2 _ _) (PySem.list_append l its.toArray n u (by rw [List.size_toArray]; omega)) ⟨e, ?_⟩
  refine ⟨.non, _, I.lset (its' := its ++ [u]) hH e (by simp) (r.append (.cons ru .nil)) ?_, rfl, q⟩
  rw [List.length_append, List.length_singleton]
  omega
def rExtend : V → List V → Hp → VK → Prop := fun x vs H Q => ∃ l b xs zs, x = .ref l ∧ vs = [.ref b] ∧ H l = some (.lst xs) ∧ H b = some (.lst zs) ∧ xs.length + zs.length ≤ sizeLine ∧ Q .non (upd H l (.lst (xs ++ zs)))
theorem mt_extend : MtM X "list.extend" rExtend := by
  intro pins s σ H x vs v us Q I rx rv h
  obtain ⟨l, b, xs, zs, rfl, rfl, hH, hB, hz, q⟩ := h
  cases rx
  obtain ⟨u, rfl, ru⟩ := rv.one
  cases ru
  obtain ⟨z, its, n, r, hl, e⟩ := I.lstM hH
  obtain ⟨z2, its2, n2, r2, hl2, e2⟩ := I.lstM hB
  have hsz : its.toArray.size + its2.toArray.size ≤ sizeLine := by rw [List.size_toArray, List.size_toArray]; omega
  have hlong : ¬ (!its.toArray.isEmpty && Builtin.List.listTooLong (its.toArray.size + its2.toArray.size)) = true := by
    rw [notLongL hsz, Bool.and_false]
    exact Bool.false_ne_true
  refine call_meets F.slot_list_extend ⟨_, e, rfl⟩ F.entry_list_extend (F.args_list_extend_2 _ _)
    (AutoSeq1.list_extend_list_list_0 l its.toArray n b its2.toArray n2 hlong (by rw [List.size_toArray]; omega) (by omega)) ⟨e, e2, ?_⟩
  refine ⟨.non, _, I.lset (its' := its ++ its2) hH e (by simp) (r.append r2) ?_, rfl, q⟩
  rw [List.length_append]
  omega
def rCat : R2 := fun x y H Q => ∃ l b xs zs, x = .ref l ∧ y = .ref b ∧ H l = some (.lst xs) ∧ H b = some (.lst zs) ∧ xs.length + zs.length ≤ sizeLine ∧ ∀ p, H p = none → Q (.ref p) (upd H p (.lst (xs ++ zs)))
theorem op_cat : OpR X (binaryOp .Add) rCat := by
  intro pins s σ H x y v u Q I rx ry h
  obtain ⟨l, b, xs, zs, rfl, rfl, hH, hB, hz, q⟩ := h
  cases rx
  cases ry
  obtain ⟨z, its, n, r, hl, e⟩ := I.lstM hH
  obtain ⟨z2, its2, n2, r2, hl2, e2⟩ := I.lstM hB
  refine PySem.P.add_list e e2 ?_ (by rw [List.size_toArray, List.size_toArray]; omega)
  have ea : its.toArray ++ its2.toArray = (its ++ its2).toArray := by simp
  rw [ea]
  exact ⟨.ref _, _, I.lnew (t' := s.toks) (r.append r2) (by rw [List.length_append]; omega), rfl, q _ I.fresh⟩
def rRep : R2 := fun x y H Q => ∃ l k xs, x = .ref l ∧ y = .int k ∧ H l = some (.lst xs) ∧ -(2 ^ 63) ≤ k ∧ k < 2 ^ 63 ∧ xs.length * k.toNat ≤ sizeLine ∧
  ∀ p, H p = none → Q (.ref p) (upd H p (.lst (List.replicate k.toNat xs).flatten))
theorem len_rep {α : Type} (xs : List α) (k : Nat) : (List.replicate k xs).flatten.length = k * xs.length := by
  induction k with
  | zero => simp
  | succ k ih => rw [List.replicate_succ, List.flatten_cons, List.length_append, ih, Nat.succ_mul, Nat.add_comm]
theorem op_rep : OpR X (binaryOp .Mult) rRep := by
  intro pins s σ H x y v u Q I rx ry h
  obtain ⟨l, k, xs, rfl, rfl, hH, h1, h2, hz, q⟩ := h
  cases rx
  obtain ⟨t, rfl⟩ := ry
  obtain ⟨z, its, n, r, hl, e⟩ := I.lstM hH
  have hlen : its.toArray.size * k.toNat ≤ sizeLine := by rw [List.size_toArray, ← hl]; exact hz
  have hcap : ¬ its.toArray.size * k.toNat > (2 ^ 63 - 1) / 8 := by
    have : (sizeLine : Nat) ≤ (2 ^ 63 - 1) / 8 := by decide
    omega
  have hfit : ¬ (!Builtin.List.listFitsIndex k) = true := by
    rw [fitsIndex_both h1 h2]
    exact Bool.false_ne_true
  have hlong : ¬ Builtin.List.listTooLong (its.toArray.size * k.toNat) = true := by
    rw [notLongL hlen]
    exact Bool.false_ne_true
  have hnew : List.foldl (fun x1 x2 => x1 ++ x2) #[] (List.replicate (if its.toArray.isEmpty = true then 0 else k.toNat) its.toArray) = (List.replicate k.toNat its).flatten.toArray := by
    have f0 : ∀ m : Nat, List.foldl (fun x1 x2 => x1 ++ x2) #[] (List.replicate m its.toArray) = (List.replicate m its).flatten.toArray := fun m => by
      have := foldl_rep its m []
      rw [List.nil_append] at this
      exact this
    rw [f0]
    cases its with
    | nil => simp
    | cons a r' => rw [if_neg (by simp)]
  refine wpAny_binaryOp_repeat_ref (T := "list") (U := "int") (by decide) ⟨_, e, rfl⟩ (fun s' => typeIs_int s' k t) noFill_list_mul F.fills_int_mul F.slot_int_rmul repeat_list F.slot_int_index.lookup
    (call_meets F.slot_int_rmul (typeIs_int s k t) F.entry_int_rmul (F.args_int_rmul_2 _ _) (int___rmul___int_list k t l its.toArray n)
      ⟨e, rfl, ⟨_, e, rfl⟩, call_meets F.slot_list_mul ⟨_, e, rfl⟩ F.entry_list_mul (F.args_list_mul_2 _ _) (AutoListH.list___mul___list_int_3 l its.toArray n k t hfit hcap hlong) ⟨e, ?_⟩⟩)
  rw [hnew]
  exact ⟨.ref _, _, I.lnew (t' := s.toks) (r.rep k.toNat) (by rw [len_rep, Nat.mul_comm]; exact hz), rfl, q _ I.fresh⟩
end
section
variable {prog : Program} {w : World} {A : Around} {E : Value → Shared → Prop} {s : Shared}
set_option maxRecDepth 100000 in
end
end L2
namespace L2
open PySem PySem.Spec PyProof.Rows
theorem vals_of_ints : ∀ {us : List Value} {ns : List Int}, IntsAre us ns → Vals (ns.map V.int) us
  | _, _, .nil => by rw [List.map_nil]; exact Paired.nil
  | _, _, .cons n t h => by rw [List.map_cons]; exact Paired.cons (show RelV (V.int n) (Value.int n t) from ⟨t, rfl⟩) (vals_of_ints h)
theorem Vals.strs : ∀ {xs : List Str} {us : List Value}, Vals (xs.map V.str) us → StrsAre us xs
  | [], us, h => by
    rw [List.map_nil] at h
    cases h
    exact StrsAre.nil
  | x :: xs, us, h => by
    rw [List.map_cons] at h
    cases h with
    | cons r t =>
      obtain ⟨k, rfl⟩ := r
      exact StrsAre.cons x k (Vals.strs t)
end L2
namespace L2
open PySem PySem.Spec PyProof.Rows
abbrev CellAt (h : Heap) (c : Addr) (v : Option Value) : Prop := h.IsCell c v
def relS (scope sc : Scope) : Scope :=
  { scope with names := scope.names.map fun (n, k) => if (k == .free && sc.kind == .function && sc.names.lookup n == some .cell) then (n, .cell) else (n, k) }
def cloFrom (cells : List (Str × Addr)) : List (Str × NameKind) → List (Str × Addr) → List (Str × Addr)
  | [], acc => acc
  | (n, k) :: r, acc => if k == .free then cloFrom cells r ((n, (cells.lookup n).getD 0) :: acc) else cloFrom cells r acc
theorem closure_loop (env : Env) (f : Str × NameKind → List (Str × Addr) → Sem (ForInStep (List (Str × Addr))))
    (hf : ∀ n k c, f (n, k) c = if k == .free then (do let a ← cellOf env n; pure (.yield ((n, a) :: c))) else pure (.yield c)) :
    ∀ (names : List (Str × NameKind)) (acc : List (Str × Addr)), (∀ y ∈ names, y.2 = .free → ∃ c, env.cells.lookup y.1 = some c) → forIn names acc f = pure (cloFrom env.cells names acc)
  | [], acc, _ => by rw [List.forIn_nil]; rfl
  | (n, k) :: r, acc, h => by
    rw [List.forIn_cons, hf]
    have ih := fun acc => closure_loop env f hf r acc fun y hy => h y (List.mem_cons_of_mem _ hy)
    unfold cloFrom
    by_cases hk : (k == NameKind.free) = true
    · rw [if_pos hk, if_pos hk]
      obtain ⟨c, hc⟩ := h (n, k) List.mem_cons_self (by simpa using hk)
      have e : cellOf env n = pure c := by unfold cellOf; rw [hc]
      rw [e]
      have e2 : (env.cells.lookup n).getD 0 = c := by rw [hc]; rfl
      rw [e2]
      exact ih _
    · rw [if_neg hk, if_neg hk]
      exact ih _
theorem closure_ok {scope : Scope} {env : Env} (h : ∀ y ∈ scope.names, y.2 = .free → ∃ c, env.cells.lookup y.1 = some c) : closureFor scope env = pure (cloFrom env.cells scope.names []) := by
  simp only [closureFor]
  rw [closure_loop env _ (fun n k c => rfl) scope.names [] h]
  rfl
theorem mem_lookup {α : Type} : ∀ {l : List (Str × α)} {n : Str} {c : α}, (n, c) ∈ l → ∃ c', l.lookup n = some c'
  | (k, v) :: r, n, c, h => by
    rw [List.lookup_cons]
    cases hb : n == k with
    | true => exact ⟨_, rfl⟩
    | false =>
      rcases List.mem_cons.mp h with e | h
      · cases e; simp at hb
      · exact mem_lookup h
theorem cloFrom_mem {cells : List (Str × Addr)} : ∀ {names : List (Str × NameKind)} {acc : List (Str × Addr)} {n : Str} {c : Addr}, (n, c) ∈ cloFrom cells names acc → (n, c) ∈ acc ∨ ((n, .free) ∈ names ∧ c = (cells.lookup n).getD 0)
  | [], _, _, _, h => .inl h
  | (m, k) :: r, acc, n, c, h => by
    unfold cloFrom at h
    split at h
    · rename_i hk
      have hk : k = .free := by simpa using hk
      rcases cloFrom_mem h with h | ⟨h1, h2⟩
      · rcases List.mem_cons.mp h with e | h
        · cases e; exact .inr ⟨hk ▸ List.mem_cons_self, rfl⟩
        · exact .inl h
      · exact .inr ⟨List.mem_cons_of_mem _ h1, h2⟩
    · rcases cloFrom_mem h with h | ⟨h1, h2⟩
      · exact .inl h
      · exact .inr ⟨List.mem_cons_of_mem _ h1, h2⟩
theorem cloFrom_acc {cells : List (Str × Addr)} : ∀ {names : List (Str × NameKind)} {acc : List (Str × Addr)} {p : Str × Addr}, p ∈ acc → p ∈ cloFrom cells names acc
  | [], _, _, h => h
  | (m, k) :: r, acc, p, h => by
    unfold cloFrom
    split
    · exact cloFrom_acc (List.mem_cons_of_mem _ h)
    · exact cloFrom_acc h
theorem cloFrom_has {cells : List (Str × Addr)} : ∀ {names : List (Str × NameKind)} {acc : List (Str × Addr)} {n : Str}, (n, .free) ∈ names → (n, (cells.lookup n).getD 0) ∈ cloFrom cells names acc
  | (m, k) :: r, acc, n, h => by
    unfold cloFrom
    rcases List.mem_cons.mp h with e | h
    · cases e
      exact cloFrom_acc List.mem_cons_self
    · split
      · exact cloFrom_has h
      · exact cloFrom_has h
theorem cells_mem : ∀ {names : List (Str × NameKind)} {h : Heap} {acc : List (Str × Addr)} {x : Str} {c : Addr}, (x, c) ∈ cellsFrom h.objs.size names acc →
    (x, c) ∈ acc ∨ ((x, .cell) ∈ names ∧ h.objs.size ≤ c ∧ CellAt (pushCells h names) c none)
  | [], _, _, _, _, h => .inl h
  | (n, k) :: r, h, acc, x, c, hm => by
    unfold cellsFrom at hm
    unfold pushCells
    split at hm
    · rename_i hk
      rw [if_pos hk]
      have hk : k = .cell := by simpa using hk
      rw [← Heap.size_push h { cls := .type "cell", data := .cell none }] at hm
      rcases cells_mem hm with hm | ⟨h1, h2, h3⟩
      · rcases List.mem_cons.mp hm with e | hm
        · cases e
          exact .inr ⟨hk ▸ List.mem_cons_self, Nat.le_refl _, _, pushCells_keeps r _ _ _ (Heap.get?_push_size _ rfl), rfl⟩
        · exact .inl hm
      · rw [Heap.size_push] at h2
        exact .inr ⟨List.mem_cons_of_mem _ h1, Nat.le_of_succ_le h2, h3⟩
    · rename_i hk
      rw [if_neg hk]
      rcases cells_mem hm with hm | ⟨h1, h2, h3⟩
      · exact .inl hm
      · exact .inr ⟨List.mem_cons_of_mem _ h1, h2, h3⟩
theorem cells_acc : ∀ {names : List (Str × NameKind)} {n : Nat} {acc : List (Str × Addr)} {p : Str × Addr}, p ∈ acc → p ∈ cellsFrom n names acc
  | [], _, _, _, h => h
  | (m, k) :: r, n, acc, p, h => by
    unfold cellsFrom
    split
    · exact cells_acc (List.mem_cons_of_mem _ h)
    · exact cells_acc h
theorem cells_has : ∀ {names : List (Str × NameKind)} {n : Nat} {acc : List (Str × Addr)} {x : Str}, (x, .cell) ∈ names → ∃ c, (x, c) ∈ cellsFrom n names acc
  | (m, k) :: r, n, acc, x, h => by
    unfold cellsFrom
    rcases List.mem_cons.mp h with e | h
    · cases e
      exact ⟨n, cells_acc List.mem_cons_self⟩
    · split
      · exact cells_has h
      · exact cells_has h
theorem cells_inj : ∀ {names : List (Str × NameKind)} {h : Heap} {acc : List (Str × Addr)} {x y : Str} {c : Addr}, (∀ p ∈ acc, p.2 < h.objs.size) → (∀ x y c, (x, c) ∈ acc → (y, c) ∈ acc → x = y) →
    (x, c) ∈ cellsFrom h.objs.size names acc → (y, c) ∈ cellsFrom h.objs.size names acc → x = y
  | [], _, _, _, _, _, _, hi, h1, h2 => hi _ _ _ h1 h2
  | (n, k) :: r, h, acc, x, y, c, hl, hi, h1, h2 => by
    unfold cellsFrom at h1 h2
    split at h1
    · rename_i hk
      rw [if_pos hk] at h2
      rw [← Heap.size_push h { cls := .type "cell", data := .cell none }] at h1 h2
      refine cells_inj (h := h.push _) (fun p hp => ?_) (fun x y c a b => ?_) h1 h2
      · rw [Heap.size_push]
        rcases List.mem_cons.mp hp with rfl | hp
        · exact Nat.lt_succ_self _
        · exact Nat.lt_succ_of_lt (hl p hp)
      · rcases List.mem_cons.mp a with e | a <;> rcases List.mem_cons.mp b with e' | b
        · cases e; cases e'; rfl
        · cases e; exact absurd (hl _ b) (Nat.lt_irrefl _)
        · cases e'; exact absurd (hl _ a) (Nat.lt_irrefl _)
        · exact hi _ _ _ a b
    · rename_i hk
      rw [if_neg hk] at h2
      exact cells_inj hl hi h1 h2
theorem newEnv_comp {M : Model} {A : Around} {E : Value → Shared → Prop} {s : Shared} {scope : Scope} {globals : Addr} {closure : List (Str × Addr)} {qual : Str} {func : Option Addr} {code : Value} {around : Env} {builtins : Addr} {Q : Env → Shared → Prop}
    (h : Q (newEnv scope s.heap.objs.size globals (cellsFrom (s.heap.objs.size + 1) scope.names closure) qual func code (some around) builtins)
      { s with heap := pushCells (s.heap.push { cls := .type "dict", data := .dict #[] }) scope.names }) :
    wpAny M A (newFunctionEnv scope globals closure [] qual func code (some around) builtins) Q E s := by
  simp only [newFunctionEnv, Option.isSome_some, if_true]
  refine wpAny_bind (wpAny_alloc ?_)
  refine wpAny_bind (wpAny_layCells _ (fun n k c => rfl) scope.names closure _ _ ?_)
  rw [show ({ s with heap := s.heap.push { cls := .type "dict", data := .dict #[] } } : Shared).heap.objs.size = s.heap.objs.size + 1 from Heap.size_push ..]
  rw [List.forIn_nil]
  exact wpAny_bind (wpAny_pure (wpAny_pure h))
theorem lookup_relS {sc : Scope} : ∀ {names : List (Str × NameKind)} {x : Str} {k : NameKind},
    (names.map fun (n, k) => if (k == NameKind.free && sc.kind == .function && sc.names.lookup n == some .cell) then (n, NameKind.cell) else (n, k)).lookup x = some k →
    ∃ k', names.lookup x = some k' ∧ (k = k' ∨ (k' = .free ∧ k = .cell))
  | [], _, _, h => by simp at h
  | (n, k₀) :: r, x, k, h => by
    have ih := @lookup_relS sc r x k
    have h' : List.lookup x ((if (k₀ == NameKind.free && sc.kind == .function && sc.names.lookup n == some .cell) = true then (n, NameKind.cell) else (n, k₀)) :: (r.map _)) = some k := h
    cases hx : x == n with
    | true =>
      simp only [List.lookup_cons, hx]
      by_cases hc : (k₀ == NameKind.free && sc.kind == .function && sc.names.lookup n == some .cell) = true
      · rw [if_pos hc] at h'
        simp only [List.lookup_cons, hx] at h'
        cases h'
        simp only [Bool.and_eq_true, beq_iff_eq] at hc
        exact ⟨k₀, rfl, .inr ⟨hc.1.1, rfl⟩⟩
      · rw [if_neg hc] at h'
        simp only [List.lookup_cons, hx] at h'
        cases h'
        exact ⟨_, rfl, .inl rfl⟩
    | false =>
      simp only [List.lookup_cons, hx]
      by_cases hc : (k₀ == NameKind.free && sc.kind == .function && sc.names.lookup n == some .cell) = true
      · rw [if_pos hc] at h'
        simp only [List.lookup_cons, hx] at h'
        exact ih h'
      · rw [if_neg hc] at h'
        simp only [List.lookup_cons, hx] at h'
        exact ih h'
structure BlkOk (N : List Str) (sc scope : Scope) (own : List (Str × Nat)) : Prop where
  kind : scope.kind = .function
  uniq : ∀ y ∈ scope.names, scope.names.lookup y.1 = some y.2
  ix : ∀ p ∈ own, N[p.2]? = some p.1
  free : ∀ y ∈ scope.names, y.2 = .free → sc.names.lookup y.1 = some .cell ∨ sc.names.lookup y.1 = some .free
  own : ∀ y ∈ scope.names, y.2 = .local ∨ y.2 = .cell → y.1 ∈ own.map (·.1) ∨ y.1 ∉ N
def wipe (σ : St) : List Nat → St
  | [] => σ
  | v :: vs => (wipe σ vs).set v none
theorem wipe_length (σ : St) : ∀ vs : List Nat, (wipe σ vs).length = σ.length
  | [] => rfl
  | v :: vs => by unfold wipe; rw [List.length_set, wipe_length σ vs]
theorem wipe_some {σ : St} {i : Nat} {x : V} : ∀ {vs : List Nat}, (wipe σ vs)[i]? = some (some x) → σ[i]? = some (some x) ∧ i ∉ vs
  | [], h => ⟨h, by simp⟩
  | v :: vs, h => by
    unfold wipe at h
    by_cases hi : v = i
    · subst hi
      by_cases hv : v < (wipe σ vs).length
      · rw [List.getElem?_set_self hv] at h; cases h
      · rw [List.getElem?_eq_none (by simpa using hv)] at h; cases h
    · rw [List.getElem?_set_ne hi] at h
      obtain ⟨h1, h2⟩ := wipe_some h
      exact ⟨h1, by simp only [List.mem_cons, not_or]; exact ⟨fun e => hi e.symm, h2⟩⟩
abbrev Cx.blk (X : Cx) (s : Shared) (H : Hp) (scope : Scope) (cenv : Env) (fp : List Addr) : Cx := { X with s₀ := s, H₀ := H, env := cenv, outer := X.stack, ex := fp, fn := fun x => scope.names.lookup x == some .cell, pn := [], xe := fun _ _ => False }
section
variable {X : Cx} {pins : List (Addr × Obj)} {σ : St} {H : Hp} {s : Shared}
theorem block_start {scope : Scope} {own : List (Str × Nat)} {fp : List Addr} (I : Inv X pins σ H s) (ok : BlkOk X.N X.env.scope scope own) (hN : X.N.Nodup) (hfp : ∀ b ∈ fp, FpOk X pins H b ∧ b < s.heap.objs.size) :
    Inv (X.blk s H scope (compEnvC scope (cellsFrom (s.heap.objs.size + 1) scope.names (cloFrom X.env.cells scope.names [])) s.heap.objs.size X.env) fp) [] (wipe σ (own.map (·.2))) H { s with heap := pushCells (s.heap.push { cls := .type "dict", data := .dict #[] }) scope.names } := by
  have hfree : ∀ y ∈ scope.names, y.2 = .free → ∃ c, X.env.cells.lookup y.1 = some c := fun y hy e => by
    rcases ok.free y hy e with k | k
    · exact I.ok.has _ (.inl k)
    · exact I.ok.has _ (.inr k)
  generalize hcenv : compEnvC scope (cellsFrom (s.heap.objs.size + 1) scope.names (cloFrom X.env.cells scope.names [])) s.heap.objs.size X.env = cenv
  have kp : ∀ b o, s.heap.get? b = some o → (pushCells (s.heap.push { cls := .type "dict", data := .dict #[] }) scope.names).get? b = some o := fun b o e => pushCells_keeps _ _ _ _ (Heap.get?_push_of_some _ e)
  have hL : cenv.locals = s.heap.objs.size := by rw [← hcenv]; rfl
  have hcl : cenv.cells = cellsFrom (s.heap.objs.size + 1) scope.names (cloFrom X.env.cells scope.names []) := by rw [← hcenv]; rfl
  have hsc : cenv.scope = relS scope X.env.scope := by rw [← hcenv]; rfl
  rw [← Heap.size_push s.heap { cls := .type "dict", data := .dict #[] }] at hcl
  have cm : ∀ {y c}, (y, c) ∈ cloFrom X.env.cells scope.names [] → X.env.cells.lookup y = some c ∧ c < s.heap.objs.size := fun {y c} hm => by
    rcases cloFrom_mem hm with hm | ⟨h1, rfl⟩
    · cases hm
    · obtain ⟨c, hc⟩ := hfree _ h1 rfl
      rw [hc]
      obtain ⟨w, z⟩ := I.cell _ _ hc
      exact ⟨rfl, z.lt⟩
  have mem : ∀ {y c}, cenv.cells.lookup y = some c → (X.env.cells.lookup y = some c ∧ c < s.heap.objs.size) ∨ (s.heap.objs.size + 1 ≤ c ∧ CellAt (pushCells (s.heap.push { cls := .type "dict", data := .dict #[] }) scope.names) c none) := fun {y c} e => by
    rw [hcl] at e
    rcases cells_mem (PySem.mem_of_lookup e) with hm | ⟨_, h2, h3⟩
    · exact .inl (cm hm)
    · rw [Heap.size_push] at h2; exact .inr ⟨h2, h3⟩
  have look : ∀ {y}, scope.names.lookup y = some .free → ∃ c, cenv.cells.lookup y = some c ∧ X.env.cells.lookup y = some c := fun {y} hl => by
    have hy : (y, NameKind.free) ∈ scope.names := PySem.mem_of_lookup hl
    obtain ⟨c', e'⟩ := mem_lookup (cells_acc (names := scope.names) (n := (s.heap.push { cls := .type "dict", data := .dict #[] }).objs.size) (cloFrom_has (cells := X.env.cells) (acc := []) hy))
    rw [← hcl] at e'
    refine ⟨c', e', ?_⟩
    rw [hcl] at e'
    rcases cells_mem (PySem.mem_of_lookup e') with hm | ⟨h1, _, _⟩
    · exact (cm hm).1
    · have := ok.uniq _ h1
      rw [hl] at this; cases this
  have okB : (X.blk s H scope cenv fp).Ok := by
    refine ⟨I.ok.mod, by show cenv.scope.kind = _; rw [hsc]; exact ok.kind, by show cenv.globals = _; rw [← hcenv]; exact I.ok.glob, by show cenv.builtins = _; rw [← hcenv]; exact I.ok.blt, by show s.heap.objs.size ≤ cenv.locals; rw [hL]; exact Nat.le_refl _,
      fun y z c e1 e2 => ?_, fun y hy => ?_, fun y c z e => ?_, I.ok.hd, I.ok.frames, .inl rfl, fun b hb => ⟨?_, fun y c e z => ?_⟩, I.bs, Nat.le_trans I.ok.bsz I.sz, fun b o e hb => ?_, fun b hb z => ?_, I.stack, I.stkFree⟩
    · have e1 : cenv.cells.lookup y = some c := e1
      have e2 : cenv.cells.lookup z = some c := e2
      rw [hcl] at e1 e2
      refine cells_inj (fun p hp => ?_) (fun y z c a b => I.ok.inj y z c (cm a).1 (cm b).1) (PySem.mem_of_lookup e1) (PySem.mem_of_lookup e2)
      rw [Heap.size_push]
      exact Nat.lt_succ_of_lt (cm (y := p.1) (c := p.2) hp).2
    · show ∃ c, cenv.cells.lookup y = some c
      have key : ∀ k, cenv.kindOf y = some k → (k = .cell ∨ k = .free) → ∃ c, cenv.cells.lookup y = some c := fun k hk hk' => by
        unfold Env.kindOf at hk
        rw [hsc] at hk
        obtain ⟨k', e, r⟩ := lookup_relS hk
        have : k' = .cell ∨ k' = .free := by
          rcases r with rfl | ⟨rfl, _⟩
          · exact hk'
          · exact .inr rfl
        rcases this with rfl | rfl
        · obtain ⟨c, hm⟩ := cells_has (n := (s.heap.push { cls := .type "dict", data := .dict #[] }).objs.size) (acc := cloFrom X.env.cells scope.names []) (PySem.mem_of_lookup e)
          obtain ⟨c', e'⟩ := mem_lookup hm
          exact ⟨c', by rw [hcl]; exact e'⟩
        · obtain ⟨c, h1, _⟩ := look e
          exact ⟨c, h1⟩
      rcases hy with hy | hy
      · exact key _ hy (.inl rfl)
      · exact key _ hy (.inr rfl)
    · have z : (scope.names.lookup y == some NameKind.cell) = true := z
      have z : scope.names.lookup y = some .cell := by simpa using z
      have e : cenv.cells.lookup y = some c := e
      rw [hcl] at e
      rcases cells_mem (PySem.mem_of_lookup e) with hm | ⟨_, h2, _⟩
      · rcases cloFrom_mem hm with hm | ⟨h1, _⟩
        · cases hm
        · have q := ok.uniq _ h1
          rw [z] at q; cases q
      · rw [Heap.size_push] at h2
        exact Nat.le_of_succ_le h2
    · show b ≠ cenv.locals
      rw [hL]; exact Nat.ne_of_lt (hfp b hb).2
    · have e : cenv.cells.lookup y = some c := e
      rcases mem e with ⟨h1, _⟩ | ⟨h1, _⟩
      · exact (hfp b hb).1.2.2.2.2.1 y c h1 z
      · have h2 : s.heap.objs.size + 1 ≤ b := by rw [← z]; exact h1
        exact absurd (Nat.lt_of_lt_of_le (hfp b hb).2 (Nat.le_of_succ_le h2)) (Nat.lt_irrefl _)
    · rcases (hfp b hb).1.2.2.2.1 with z | z
      · exact I.ok.noex b o e z
      · exact absurd (Nat.lt_of_lt_of_le (Heap.lt_size e) (Nat.le_trans I.ok.bsz z)) (Nat.lt_irrefl _)
    · rcases List.mem_cons.mp (I.stkSub b z) with z | z
      · exact (hfp b hb).1.2.1 z
      · exact (hfp b hb).1.2.2.1 z
  refine ⟨okB, rfl, I.bare, Un.kept kp, ⟨fun _ => none, ?_, fun i y av e1 e2 e3 => ?_⟩, fun y c e => ?_, ?_, fun y c e => ?_, fun p hp => ?_, I.hok.kept kp, by rw [wipe_length]; exact I.len⟩
  · show Heap.Ns _ cenv.locals _
    rw [hL]
    exact Heap.Ns.keeps (Heap.Ns.new ..) fun b o e => pushCells_keeps _ _ _ _ e
  · obtain ⟨e2, hne⟩ := wipe_some e2
    have hfr : scope.names.lookup y = some .free ∧ (cenv.kindOf y = some .cell ∨ cenv.kindOf y = some .free) := by
      have key : ∀ k, cenv.scope.names.lookup y = some k → k = .local ∨ k = .cell ∨ k = .free → scope.names.lookup y = some .free ∧ (cenv.kindOf y = some .cell ∨ cenv.kindOf y = some .free) := fun k hk hk' => by
        have hk0 := hk
        rw [hsc] at hk
        obtain ⟨k', e, r⟩ := lookup_relS hk
        have no : ¬ (k' = .local ∨ k' = .cell) := fun hh => by
          rcases ok.own _ (PySem.mem_of_lookup e) hh with e' | e'
          · obtain ⟨p, hp, hpy⟩ := List.mem_map.mp e'
            have e3 := ok.ix p hp
            have : p.1 = y := hpy
            rw [this] at e3
            exact hne (List.mem_map.mpr ⟨p, hp, nodup_ix hN e3 e1⟩)
          · exact e' (List.mem_of_getElem? e1)
        rcases r with rfl | ⟨rfl, rfl⟩
        · rcases hk' with rfl | rfl | rfl
          · exact absurd (.inl rfl) no
          · exact absurd (.inr rfl) no
          · exact ⟨e, .inr hk0⟩
        · exact ⟨e, .inl hk0⟩
      have e3 : Vis cenv.scope y := e3
      rcases e3 with e3 | e3 | e3
      · exact key _ e3 (.inl rfl)
      · exact key _ e3 (.inr (.inl rfl))
      · exact key _ e3 (.inr (.inr rfl))
    obtain ⟨m, hn, hl⟩ := I.loc
    have hvis : Vis X.env.scope y := (ok.free _ (PySem.mem_of_lookup hfr.1) rfl).elim (fun k => .inr (.inl k)) (fun k => .inr (.inr k))
    obtain ⟨w, r, q⟩ := hl i y av e1 e2 hvis
    refine ⟨w, r, .inr ⟨hfr.2, ?_⟩⟩
    obtain ⟨c, h1, h2⟩ := look hfr.1
    rcases q with ⟨k, _⟩ | ⟨_, c', e', z⟩
    · have k : X.env.scope.names.lookup y = some .local := k
      rcases ok.free _ (PySem.mem_of_lookup hfr.1) rfl with k' | k' <;> rw [show X.env.scope.names.lookup y = _ from k'] at k <;> cases k
    · rw [h2] at e'; cases e'
      exact ⟨c, h1, z.keeps kp⟩
  · have e : cenv.cells.lookup y = some c := e
    rcases mem e with ⟨h1, _⟩ | ⟨_, z⟩
    · obtain ⟨w, z⟩ := I.cell y c h1
      exact ⟨w, z.keeps kp⟩
    · exact ⟨_, z⟩
  · show H cenv.locals = none
    rw [hL]; exact I.hok.fresh (Nat.le_refl _)
  · have e : cenv.cells.lookup y = some c := e
    rcases mem e with ⟨h1, _⟩ | ⟨h1, _⟩
    · exact I.freeC y c h1
    · exact I.hok.fresh (Nat.le_of_succ_le h1)
  · exact absurd (show p ∈ ([] : List (Addr × Obj)) ++ [] from hp) (by simp)
theorem app_ok {E : Value → Shared → Prop} {D : Addr} {xs : List V} {y : V} {v : Value} {Q : Value → Shared → Prop} (I : Inv X pins σ H s) (hD : H D = some (.lst xs)) (hz : xs.length < sizeLine) (r : RelV y v)
    (h : ∀ s', Inv X pins σ (upd H D (.lst (xs ++ [y]))) s' → Q .none s') : wpAny (model X.prog X.w) X.A (call (.builtin "list.append") [.ref D, v]) Q E s := by
  obtain ⟨hz', its, n, ri, e⟩ := I.hok D _ hD
  have hl := ri.length
  refine append_at (hsz := by rw [List.size_toArray]; omega) e fun h' sb ho' => ?_
  refine h { s with heap := h' } (I.write (t' := s.toks) (by rw [hD]; trivial) (.inl rfl) (fun b u hb q => (sb.2 b hb).trans q) ⟨_, ho'⟩ ⟨by rw [List.length_append]; exact hz, its ++ [v], n + 1, ri.append (.cons r .nil), ?_⟩)
  rw [ho']
  simp
def PTs (X : Cx) (ifs : List Expr) (t : TT) : Prop :=
  ∀ (pins : List (Addr × Obj)) (s : Shared) (σ : St) (H : Hp) (Q : Bool → Hp → Prop), Inv X pins σ H s → t σ H Q →
    wpAny (model X.prog X.w) X.A (forIn ifs true fun c r => if r = true then do let ok ← isTrue c X.env (eval c X.env); pure (ForInStep.yield ok) else pure (ForInStep.yield r)) (TP X pins σ Q) X.xe s
def tYes : TT := fun _ H Q => Q true H
theorem pts_nil : PTs X [] tYes := fun _ _ _ H _ I h => wpAny_tests_nil ⟨H, I, h⟩
end
theorem thnF {α : Type} {t : Sem α} {Q Q' : α → Shared → Prop} {M : Model} {A : Around} {E : Value → Shared → Prop} {s : Shared} (h : wpAny M A t Q (fun _ _ => False) s) (hQ : ∀ a s, Q a s → Q' a s) : wpAny M A t Q' E s := wpAny_mono h hQ fun _ _ z => False.elim z
theorem compLoop_any {prog : Program} {w : World} {A : Around} {R : Result → Shared → Prop} {s : Shared} {elt target iter : Expr} {ifs : List Expr} {scope : Scope} {pos : Pos} {it acc : Value} {env : Env} (I : Nat → Shared → Prop)
    (turn : ∀ n s, I n s → wpAny (model prog w) A (pyNext it) (fun r s₁ => match r with
      | none => R (.ok .next) s₁
      | some v => wpAny (model prog w) A (letOwnedTupleGo target it v) (fun _ s₁' => wpAny (model prog w) A (assign target env v) (fun _ s₂ =>
          wpAny (model prog w) A (forIn ifs true fun c r => if r = true then do let ok ← isTrue c env (eval c env); pure (ForInStep.yield ok) else pure (ForInStep.yield r)) (fun ok s₃ =>
            if ok = true then wpAny (model prog w) A (eval elt env) (fun x s₄ =>
              wpAny (model prog w) A (call (.builtin "list.append") [acc, x]) (fun _ s₅ => ∃ m, m < n ∧ I m s₅) (notedBy (model prog w) A env fun e s' => R (.error e) s') s₄) (notedBy (model prog w) A env fun e s' => R (.error e) s') s₃
            else ∃ m, m < n ∧ I m s₃) (notedBy (model prog w) A env fun e s' => R (.error e) s') s₂) (notedBy (model prog w) A env fun e s' => R (.error e) s') s₁') (notedBy (model prog w) A env fun e s' => R (.error e) s') s₁) (notedBy (model prog w) A env fun e s' => R (.error e) s') s)
    (n : Nat) (h : I n s) :
    codeAny (model prog w) A (.compLoop (.ListComp elt [⟨target, iter, ifs, 0⟩] scope pos) 0 it acc env) R s := by
  refine codeAny_loop rfl I (fun n s hI => ?_) n h
  show wpAny _ A ((compTurn (.ListComp elt [⟨target, iter, ifs, 0⟩] scope pos) 0 it acc env).onRaise (fun x => do noteFrame x env; theTreesLotGoes x)) _ _ s
  refine wpAny_noted ?_
  rw [compTurn_list]
  refine wpAny_bind (wpAny_standAt (wpAny_bind (wpAny_mono (turn n s hI) (fun r s₁ h₁ => ?_) fun _ _ h' => h')))
  cases r with
  | none => exact wpAny_pure h₁
  | some v =>
    refine wpAny_bind (wpAny_mono h₁ (fun _ s₁' h₁' => ?_) fun _ _ h' => h')
    refine wpAny_bind (wpAny_mono h₁' (fun _ s₂ h₂ => wpAny_bind (wpAny_mono h₂ (fun ok s₃ h₃ => ?_) fun _ _ h' => h')) fun _ _ h' => h')
    cases ok with
    | false => exact wpAny_pure ⟨rfl, h₃⟩
    | true =>
      exact wpAny_bind (wpAny_bind (wpAny_mono h₃ (fun x s₄ h₄ => wpAny_bind (wpAny_mono h₄ (fun _ s₅ h₅ => wpAny_pure (wpAny_pure ⟨rfl, h₅⟩)) fun _ _ h' => h')) fun _ _ h' => h'))
section
variable {X : Cx}
def tLc (wi : TI) (g : TG) (tt : TT) (te : TE) (vs : List Nat) : TE := fun σ H Q => wi σ H fun J H1 => ∀ D, H1 D = none → ∃ W : Nat → Nat → Hp → Prop, (∃ m, W 0 m (upd H1 D (.lst []))) ∧ ∀ i m H, W i m H →
  (J.stop i H ∧ Q (.ref D) H) ∨ (J.go i H ∧ ∃ Nx : Hp → Prop, (∀ H', Nx H' → ∃ m', m' < m ∧ W (i + 1) m' H') ∧ ∀ x H', J.yld i H x H' → g x (wipe σ vs) H' fun σ2 H2 => wipe σ2 vs = wipe σ vs ∧ tt σ2 H2 fun b H3 =>
    if b = true then te σ2 H3 fun y H4 => ∃ acc, H4 D = some (.lst acc) ∧ acc.length < sizeLine ∧ Nx (upd H4 D (.lst (acc ++ [y]))) else Nx H3)
theorem lc_core {pins : List (Addr × Obj)} {s : Shared} {σ : St} {H : Hp} {Q : VK} {elt tg iter : Expr} {ifs : List Expr} {scope : Scope} {own : List (Str × Nat)} {pos pos' : Pos} {wi : TI} {g : TG} {tt : TT} {te : TE} {use : Option (Value → Sem Unit)} {Qf : Value → Shared → Prop}
    (hc : X.calm = true) (hN : X.N.Nodup) (I : Inv X pins σ H s) (hi : PI X tg iter wi) (ok : BlkOk X.N X.env.scope scope own)
    (hg : ∀ (s : Shared) (H : Hp) (C : Addr) (cl : List (Str × Addr)) (fp : List Addr), PG (X.blk s H scope (compEnvC scope cl C X.env) fp) tg g) (ht : ∀ (s : Shared) (H : Hp) (C : Addr) (cl : List (Str × Addr)) (fp : List Addr), PTs (X.blk s H scope (compEnvC scope cl C X.env) fp) ifs tt)
    (he : ∀ (s : Shared) (H : Hp) (C : Addr) (cl : List (Str × Addr)) (fp : List Addr), PE (X.blk s H scope (compEnvC scope cl C X.env) fp) elt te) (hs : ∀ x, foldedSetIterable iter X.env x = pure x)
    (h : tLc wi g tt te (own.map (·.2)) σ H Q)
    (hRR : ∀ D C s' m H', Inv X pins σ H' s' → Q (.ref D) H' → s'.heap.Ns C m → FpOk X pins H' C → compPost (model X.prog X.w) X.A X.xe use Qf (.ref D) C (.ok .next) s') :
    wpAny (model X.prog X.w) X.A (comprehension (.ListComp elt [⟨tg, iter, ifs, 0⟩] scope pos) scope X.env pos' (newList []) false (eval iter X.env) use) Qf X.xe s := by
  have hfree : ∀ y ∈ scope.names, y.2 = .free → ∃ c, X.env.cells.lookup y.1 = some c := fun y hy e => by
    rcases ok.free y hy e with k | k
    · exact I.ok.has _ (.inl k)
    · exact I.ok.has _ (.inr k)
  refine wpAny_comprehension_free (use := use) rfl hs (closure_ok hfree) ok.kind (fun y hy e => by rw [ok.uniq y hy, e])
    (thn (hi pins s σ H _ I h) fun xv s1 hx => thn hx fun itv s2 h2 => ?_)
  obtain ⟨it, fp, tn, J, H2, e, I2, T, st2, f2, q⟩ := h2
  subst e
  refine wpAny_newObj_type (newEnv_comp ?_) (by show 0 ≤ sizeLine; decide)
  generalize hD : s2.heap.objs.size = D
  have hDn : H2 D = none := I2.hok.fresh (Nat.le_of_eq hD)
  obtain ⟨W, ⟨m0, w0⟩, turn⟩ := q D hDn
  generalize hs3 : ({ s2 with heap := s2.heap.push { cls := .type "list", data := .seq ([] : List Value).toArray } } : Shared) = s3
  have I3 : Inv X pins σ (upd H2 D (.lst [])) s3 := by
    rw [← hs3]
    refine I2.laid (t' := s2.toks) (fun b o e => Heap.get?_push_of_some _ e) (Nat.le_of_eq hD) ⟨Nat.zero_le _, [], 0, .nil, ?_⟩
    rw [← hD]
    exact Heap.get?_push_size _ rfl
  have h3 : s3.heap = s2.heap.push { cls := .type "list", data := .seq ([] : List Value).toArray } := by rw [← hs3]
  have sz : ∀ b ∈ fp, b < s2.heap.objs.size := fun b hb => by
    obtain ⟨o, e, _⟩ := T.obj _ _ st2 b hb
    exact Heap.lt_size e
  have f3 : ∀ b ∈ fp, FpOk X pins (upd H2 D (.lst [])) b ∧ b < s3.heap.objs.size := fun b hb => by
    have hlt := sz b hb
    refine ⟨⟨?_, (f2 b hb).2⟩, by rw [h3, Heap.size_push]; exact Nat.lt_succ_of_lt hlt⟩
    rw [upd_ne (by rw [← hD]; exact Nat.ne_of_lt hlt)]
    exact (f2 b hb).1
  have st3 : tn 0 s3.heap := T.keep _ _ _ st2 fun b _ o e => by rw [h3]; exact Heap.get?_push_of_some _ e
  have I4 := block_start I3 ok hN f3
  have pg := hg s3 (upd H2 D (.lst [])) s3.heap.objs.size (cellsFrom (s3.heap.objs.size + 1) scope.names (cloFrom X.env.cells scope.names [])) fp
  have pt := ht s3 (upd H2 D (.lst [])) s3.heap.objs.size (cellsFrom (s3.heap.objs.size + 1) scope.names (cloFrom X.env.cells scope.names [])) fp
  have pe := he s3 (upd H2 D (.lst [])) s3.heap.objs.size (cellsFrom (s3.heap.objs.size + 1) scope.names (cloFrom X.env.cells scope.names [])) fp
  show codeAny _ _ (.compStart (.ListComp elt [⟨tg, iter, ifs, 0⟩] scope pos) 0 (.ref it) (.ref D) (compEnvC scope (cellsFrom (s3.heap.objs.size + 1) scope.names (cloFrom X.env.cells scope.names [])) s3.heap.objs.size X.env)) (compPost (model X.prog X.w) X.A X.xe use Qf (.ref D) s3.heap.objs.size) { s3 with heap := pushCells (s3.heap.push { cls := .type "dict", data := .dict #[] }) scope.names }
  have nfp : ∀ b ∈ fp, (upd H2 D (.lst [])) b = none := fun b hb => (f3 b hb).1.1
  generalize hce : compEnvC scope (cellsFrom (s3.heap.objs.size + 1) scope.names (cloFrom X.env.cells scope.names [])) s3.heap.objs.size X.env = ce at I4 pg pt pe ⊢
  have cL : ce.locals = s3.heap.objs.size := by subst hce; rfl
  generalize hH3 : upd H2 D (.lst []) = H3 at I3 I4 pg pt pe w0 nfp f3
  generalize hs4 : ({ s3 with heap := pushCells (s3.heap.push { cls := .type "dict", data := .dict #[] }) scope.names } : Shared) = s4 at I4 ⊢
  have st4 : tn 0 s4.heap := T.keep _ _ _ st3 fun b _ o e => by rw [← hs4]; exact pushCells_keeps _ _ _ _ (Heap.get?_push_of_some _ e)
  have stat : ∀ {σ' : St} {H' : Hp} {s' : Shared}, Inv (X.blk s3 H3 scope ce fp) [] σ' H' s' → (∀ b ∈ fp, H' b = none) → ∀ b ∈ fp, FpOk (X.blk s3 H3 scope ce fp) [] H' b := fun {σ' H' s'} I' hn b hb =>
    ⟨hn b hb, (I'.ok.exf b hb).1, I'.ok.exfs b hb, .inl hb, fun x c e => (I'.ok.exf b hb).2 x c e, fun p hp => absurd (show p ∈ ([] : List (Addr × Obj)) ++ [] from hp) (by simp)⟩
  have loop : codeAny (model X.prog X.w) X.A (.compLoop (.ListComp elt [⟨tg, iter, ifs, 0⟩] scope pos) 0 (.ref it) (.ref D) ce) (compPost (model X.prog X.w) X.A X.xe use Qf (.ref D) s3.heap.objs.size) s4 := by
    refine compLoop_any (fun n s' => ∃ i H', Inv (X.blk s3 H3 scope ce fp) [] (wipe σ (own.map (·.2))) H' s' ∧ tn i s'.heap ∧ (∀ b ∈ fp, H' b = none) ∧ W i n H') ?_ m0 ⟨0, H3, I4, st4, nfp, w0⟩
    rintro n s5 ⟨i, H5, I5, st5, n5, w5⟩
    rcases turn i n H5 w5 with ⟨stop, qq⟩ | ⟨go, Nx, hNx, step⟩
    · have td := T.done (X.blk s3 H3 scope ce fp) rfl rfl rfl hc i [] s5 _ H5 (fun _ _ => False) I5 (stat I5 n5) st5 stop
      refine thnF td fun r s6 ⟨hr, I6⟩ => ?_
      subst hr
      have I7 : Inv X pins σ H5 s6 := I3.call' (ch := fp) I6.os I6.base I6.hok I6.bare fun b hb => ⟨(f3 b hb).1.2.2.2.1, (f3 b hb).1.2.1, (f3 b hb).1.2.2.2.2.1, (f3 b hb).1.2.2.2.2.2⟩
      have nC : H5 s3.heap.objs.size = none := by
        have z : H5 ce.locals = none := I6.free
        rw [cL] at z
        exact z
      obtain ⟨m, hn, _⟩ := I6.loc
      have hn : s6.heap.Ns ce.locals m := hn
      rw [cL] at hn
      exact hRR D s3.heap.objs.size s6 m H5 I7 qq hn (I3.fpOk (Nat.le_refl _) nC)
    · have ti := T.item (X.blk s3 H3 scope ce fp) rfl rfl rfl hc i [] s5 _ H5 (fun _ _ => False) I5 (stat I5 n5) st5 go
      refine thnF ti fun r s6 ⟨u, hr, h6⟩ => ?_
      subst hr
      refine thnF h6 fun _ s7 ⟨x, H7, I7, r7, y7, st7, n7⟩ => ?_
      have I7' := I7.pinned (stat I7 n7) (T.obj _ _ st7)
      refine thnF (pg _ s7 _ H7 x u _ I7' r7 (step x H7 y7)) fun _ s8 ⟨σ8, H8, I8, hw8, q8⟩ => ?_
      refine thnF (pt _ s8 σ8 H8 _ I8 q8) fun b s9 ⟨H9, I9, q9⟩ => ?_
      have fin : ∀ {s' : Shared} {H' : Hp}, Inv (X.blk s3 H3 scope ce fp) ([] ++ pinsAt fp s7.heap) σ8 H' s' → Nx H' → ∃ m, m < n ∧ ∃ i H', Inv (X.blk s3 H3 scope ce fp) [] (wipe σ (own.map (·.2))) H' s' ∧ tn i s'.heap ∧ (∀ b ∈ fp, H' b = none) ∧ W i m H' := fun {s' H'} I' nx => by
        obtain ⟨m', hm, w'⟩ := hNx H' nx
        have pin' : ∀ b ∈ fp, ∀ o, s7.heap.get? b = some o → s'.heap.get? b = some o ∧ H' b = none := fun b hb o e =>
          let z := I'.pin (b, o) (List.mem_append_right _ (List.mem_append_right _ (mem_pinsAt hb e)))
          ⟨z.1, z.2.1⟩
        have hl : (wipe σ (own.map (·.2))).length = σ8.length := by rw [← hw8, wipe_length]
        refine ⟨m', hm, i + 1, H', (I'.unpinned (pins := [])).weak hl (fun j v e => ?_), T.keep _ _ _ st7 fun b hb o e => (pin' b hb o e).1, fun b hb => ?_, w'⟩
        · rw [← hw8] at e
          exact (wipe_some e).1
        · obtain ⟨o, e, _⟩ := T.obj _ _ st7 b hb
          exact (pin' b hb o e).2
      cases b with
      | false =>
        simp only [Bool.false_eq_true, if_false] at q9 ⊢
        exact fin I9 q9
      | true =>
        simp only [if_true] at q9 ⊢
        refine thnF (pe _ s9 σ8 H9 _ I9 q9) fun z s10 ⟨yv, H10, I10, r10, acc, hD10, hz10, nx⟩ => ?_
        exact app_ok (X := X.blk s3 H3 scope ce fp) I10 hD10 hz10 r10 fun s11 I11 => fin I11 nx
  exact codeAny_compStart_list loop (T.self X.A 0 _ _ _ st4 loop)
theorem pe_lc {elt tg iter : Expr} {ifs : List Expr} {scope : Scope} {own : List (Str × Nat)} {pos : Pos} {wi : TI} {g : TG} {tt : TT} {te : TE} (hc : X.calm = true) (hN : X.N.Nodup) (hi : PI X tg iter wi) (ok : BlkOk X.N X.env.scope scope own)
    (hg : ∀ (s : Shared) (H : Hp) (C : Addr) (cl : List (Str × Addr)) (fp : List Addr), PG (X.blk s H scope (compEnvC scope cl C X.env) fp) tg g) (ht : ∀ (s : Shared) (H : Hp) (C : Addr) (cl : List (Str × Addr)) (fp : List Addr), PTs (X.blk s H scope (compEnvC scope cl C X.env) fp) ifs tt)
    (he : ∀ (s : Shared) (H : Hp) (C : Addr) (cl : List (Str × Addr)) (fp : List Addr), PE (X.blk s H scope (compEnvC scope cl C X.env) fp) elt te) (hs : ∀ x, foldedSetIterable iter X.env x = pure x := by intro _; rfl) :
    PE X (.ListComp elt [⟨tg, iter, ifs, 0⟩] scope pos) (tLc wi g tt te (own.map (·.2))) := by
  intro pins s σ H Q I h
  rw [eval_ListComp]
  refine lc_core hc hN I hi ok hg ht he hs h fun D C s' m H' I' q hn f => ⟨m, hn, fun h'' sb => ?_⟩
  obtain ⟨f0, f1, f2, f3, f4, f5⟩ := f
  exact ⟨.ref D, H', I'.turned (t' := s'.toks) (fun b o hb e => (sb.2 b hb).trans e) f0 f1 f3 f4 f5, rfl, q⟩
end
theorem lc_range {lo : Int} {n : Nat} {g : TG} {tt : TT} {te : TE} {vs : List Nat} {σ : St} {H1 : Hp} {D : Addr} {Qd : Hp → Prop} (Pv : Nat → Hp → Prop) (h0 : Pv 0 (upd H1 D (.lst [])))
    (hs : ∀ i H, i < n → Pv i H → g (.int (lo + i)) (wipe σ vs) H fun σ2 H2 => wipe σ2 vs = wipe σ vs ∧ tt σ2 H2 fun b H3 =>
      if b = true then te σ2 H3 fun y H4 => ∃ acc, H4 D = some (.lst acc) ∧ acc.length < sizeLine ∧ Pv (i + 1) (upd H4 D (.lst (acc ++ [y]))) else Pv (i + 1) H3) (hd : ∀ H, Pv n H → Qd H) :
    ∃ W : Nat → Nat → Hp → Prop, (∃ m, W 0 m (upd H1 D (.lst []))) ∧ ∀ i m H, W i m H →
      ((Itr lo n).stop i H ∧ Qd H) ∨ ((Itr lo n).go i H ∧ ∃ Nx : Hp → Prop, (∀ H', Nx H' → ∃ m', m' < m ∧ W (i + 1) m' H') ∧ ∀ x H', (Itr lo n).yld i H x H' → g x (wipe σ vs) H' fun σ2 H2 => wipe σ2 vs = wipe σ vs ∧ tt σ2 H2 fun b H3 =>
        if b = true then te σ2 H3 fun y H4 => ∃ acc, H4 D = some (.lst acc) ∧ acc.length < sizeLine ∧ Nx (upd H4 D (.lst (acc ++ [y]))) else Nx H3) := by
  refine ⟨fun i m H => m = n - i ∧ i ≤ n ∧ Pv i H, ⟨n, by simp, Nat.zero_le _, h0⟩, ?_⟩
  rintro i m H ⟨rfl, hi, p⟩
  by_cases hlt : i < n
  · refine .inr ⟨hlt, Pv (i + 1), fun H' p' => ⟨n - (i + 1), by omega, rfl, hlt, p'⟩, fun x H' y => ?_⟩
    obtain ⟨e, y⟩ := y
    subst e y
    exact hs i _ hlt p
  · have e : i = n := by omega
    subst e
    exact .inl ⟨Nat.le_refl _, hd H p⟩
def blkC (N : List Str) (sc scope : Scope) (own : List (Str × Nat)) : Bool :=
  (match scope.kind with | .function => true | _ => false) && (scope.names.all fun y => decide (scope.names.lookup y.1 = some y.2)) && (own.all fun p => decide (N[p.2]? = some p.1)) &&
    (scope.names.all fun y => match y.2 with
      | .free => (match sc.names.lookup y.1 with | some .cell => true | some .free => true | _ => false)
      | .local => decide (y.1 ∈ own.map (·.1)) || decide (y.1 ∉ N)
      | .cell => decide (y.1 ∈ own.map (·.1)) || decide (y.1 ∉ N)
      | _ => true)
theorem blkOk_by {N : List Str} {sc scope : Scope} {own : List (Str × Nat)} (h : blkC N sc scope own = true) : BlkOk N sc scope own := by
  unfold blkC at h
  simp only [Bool.and_eq_true, List.all_eq_true, decide_eq_true_eq] at h
  obtain ⟨⟨⟨h1, h2⟩, h3⟩, h4⟩ := h
  refine ⟨?_, h2, h3, fun y hy e => ?_, fun y hy e => ?_⟩
  · split at h1
    · assumption
    · cases h1
  · have q := h4 y hy
    simp only [e] at q
    split at q <;> first | exact .inl (by assumption) | exact .inr (by assumption) | cases q
  · have q := h4 y hy
    rcases e with e | e <;> (simp only [e, Bool.or_eq_true, decide_eq_true_eq] at q; exact q)
end L2
namespace L2
open PySem PySem.Spec PyProof.Rows
end L2
namespace L2
open PySem PySem.Spec PyProof.Rows
section
variable {κ : Type} [DecidableEq κ]
def valV (kvs : List (κ × V)) (k : κ) : Option V := (kvs.find? fun kv => decide (kv.1 = k)).map (·.2)
def putK (kvs : List (κ × V)) (k : κ) (v : V) : List (κ × V) :=
  if (kvs.any fun kv => decide (kv.1 = k)) = true then kvs.map (fun kv => if kv.1 = k then (kv.1, v) else kv) else kvs ++ [(k, v)]
def dropK (kvs : List (κ × V)) (k : κ) : List (κ × V) := kvs.filter fun kv => decide (kv.1 ≠ k)
theorem valV_pos {p : κ × V} {r : List (κ × V)} {k : κ} (e : p.1 = k) : valV (p :: r) k = some p.2 := by simp [valV, List.find?_cons, e]
theorem valV_neg {p : κ × V} {r : List (κ × V)} {k : κ} (e : ¬ p.1 = k) : valV (p :: r) k = valV r k := by simp [valV, List.find?_cons, e]
theorem valV_any (k : κ) : ∀ kvs : List (κ × V), (kvs.any fun kv => decide (kv.1 = k)) = (valV kvs k).isSome
  | [] => rfl
  | p :: r => by
    rw [List.any_cons]
    by_cases e : p.1 = k
    · simp only [valV_pos e, decide_eq_true e, Bool.true_or, Option.isSome_some]
    · rw [valV_neg e, decide_eq_false e, Bool.false_or]; exact valV_any k r
theorem valV_map (k j : κ) (y : V) : ∀ kvs : List (κ × V), valV (kvs.map fun kv => if kv.1 = k then (kv.1, y) else kv) j = (valV kvs j).map fun x => if j = k then y else x
  | [] => rfl
  | p :: r => by
    have ih := valV_map k j y r
    rw [List.map_cons]
    by_cases h : p.1 = k
    · rw [if_pos h]
      by_cases e : p.1 = j
      · rw [valV_pos (p := (p.1, y)) e, valV_pos e, Option.map_some, if_pos (e.symm.trans h)]
      · rw [valV_neg (p := (p.1, y)) e, valV_neg e, ih]
    · rw [if_neg h]
      by_cases e : p.1 = j
      · rw [valV_pos (p := p) e, valV_pos e, Option.map_some, if_neg (fun z => h (e.trans z))]
      · rw [valV_neg (p := p) e, valV_neg e, ih]
theorem valV_snoc (k j : κ) (y : V) : ∀ kvs : List (κ × V), valV kvs k = none → valV (kvs ++ [(k, y)]) j = if j = k then some y else valV kvs j
  | [], _ => by
    by_cases e : k = j
    · rw [if_pos e.symm]; exact valV_pos (p := (k, y)) e
    · rw [if_neg (fun z => e z.symm)]; exact valV_neg (p := (k, y)) e
  | p :: r, hn => by
    rw [List.cons_append]
    have hk : ¬ p.1 = k := fun z => by rw [valV_pos z] at hn; cases hn
    rw [valV_neg hk] at hn
    have ih := valV_snoc k j y r hn
    by_cases e : p.1 = j
    · rw [valV_pos e, valV_pos e, if_neg (fun z => hk (e.trans z))]
    · rw [valV_neg e, valV_neg e, ih]
theorem valV_put (kvs : List (κ × V)) (k j : κ) (y : V) : valV (putK kvs k y) j = if j = k then some y else valV kvs j := by
  unfold putK
  by_cases a : (kvs.any fun kv => decide (kv.1 = k)) = true
  · rw [if_pos a, valV_map]
    rw [valV_any] at a
    by_cases e : j = k
    · obtain ⟨x, hx⟩ := Option.isSome_iff_exists.mp a
      rw [if_pos e, e, hx, Option.map_some, if_pos rfl]
    · rw [if_neg e]
      cases valV kvs j with
      | none => rfl
      | some x => rw [Option.map_some, if_neg e]
  · rw [if_neg a]
    refine valV_snoc k j y kvs ?_
    rw [valV_any] at a
    cases q : valV kvs k with
    | none => rfl
    | some x => rw [q] at a; exact (a rfl).elim
theorem length_putK (kvs : List (κ × V)) (k : κ) (v : V) : (putK kvs k v).length ≤ kvs.length + 1 := by
  unfold putK
  split
  · rw [List.length_map]; omega
  · rw [List.length_append, List.length_cons, List.length_nil]; omega
theorem putK_new {kvs : List (κ × V)} {k : κ} (v : V) (h : valV kvs k = none) : putK kvs k v = kvs ++ [(k, v)] := by
  unfold putK
  rw [valV_any, h]
  exact if_neg (by decide)
theorem RelO.isSome_eq {o : Option V} {u : Option Value} (r : RelO o u) : o.isSome = u.isSome := by
  cases o with
  | none => cases u with
    | none => rfl
    | some _ => exact (show False from r).elim
  | some _ => cases u with
    | none => exact (show False from r).elim
    | some _ => rfl
theorem RelO.getD {o : Option V} {u : Option Value} {d : V} {d' : Value} (r : RelO o u) (rd : RelV d d') : RelV (o.getD d) (u.getD d') := by
  cases o with
  | none => cases u with
    | none => exact rd
    | some _ => exact (show False from r).elim
  | some _ => cases u with
    | none => exact (show False from r).elim
    | some _ => exact r
theorem KV.val {kvs : List (κ × V)} {vs : List (κ × Value)} (r : KV kvs vs) (k : κ) : RelO (valV kvs k) (valueAt vs k) := by
  unfold KV at r
  induction r with
  | nil => exact True.intro
  | @cons p q ps qs h t ih =>
    obtain ⟨h1, h2⟩ := h
    by_cases e : p.1 = k
    · have e' : q.1 = k := h1.symm.trans e
      have b : valueAt (q :: qs) k = some q.2 := by simp [valueAt, List.find?_cons, e']
      rw [valV_pos e, b]; exact h2
    · have e' : ¬ q.1 = k := fun z => e (h1.trans z)
      have b : valueAt (q :: qs) k = valueAt qs k := by simp [valueAt, List.find?_cons, e']
      rw [valV_neg e, b]; exact ih
theorem KV.any {kvs : List (κ × V)} {vs : List (κ × Value)} (r : KV kvs vs) (k : κ) : (kvs.any fun kv => decide (kv.1 = k)) = vs.any fun kv => decide (kv.1 = k) := by
  unfold KV at r
  induction r with
  | nil => rfl
  | cons h t ih => rw [List.any_cons, List.any_cons, ih, h.1]
theorem KV.repl {kvs : List (κ × V)} {vs : List (κ × Value)} (r : KV kvs vs) (k : κ) {y : V} {u : Value} (ry : RelV y u) :
    KV (kvs.map fun kv => if kv.1 = k then (kv.1, y) else kv) (vs.map fun kv => if kv.1 = k then (kv.1, u) else kv) := by
  unfold KV at r ⊢
  induction r with
  | nil => exact .nil
  | @cons p q ps qs h t ih =>
    rw [List.map_cons, List.map_cons]
    refine .cons ?_ ih
    obtain ⟨h1, h2⟩ := h
    by_cases e : p.1 = k
    · rw [if_pos e, if_pos (h1.symm.trans e)]; exact ⟨h1, ry⟩
    · rw [if_neg e, if_neg (fun z => e (h1.trans z))]; exact ⟨h1, h2⟩
theorem KV.put {kvs : List (κ × V)} {vs : List (κ × Value)} (r : KV kvs vs) (k : κ) {y : V} {u : Value} (ry : RelV y u) : KV (putK kvs k y) (stored vs k u) := by
  unfold putK stored
  rw [r.any k]
  by_cases e : (vs.any fun kv => decide (kv.1 = k)) = true
  · rw [if_pos e, if_pos e]; exact r.repl k ry
  · rw [if_neg e, if_neg e]; exact Paired.snoc r ⟨rfl, ry⟩
theorem KV.drop {kvs : List (κ × V)} {vs : List (κ × Value)} (r : KV kvs vs) (k : κ) : KV (dropK kvs k) (without vs k) := by
  unfold KV at r ⊢
  unfold dropK without
  induction r with
  | nil => exact .nil
  | @cons p q ps qs h t ih =>
    obtain ⟨h1, h2⟩ := h
    rw [List.filter_cons, List.filter_cons]
    by_cases e : p.1 = k
    · have a : ¬ decide (p.1 ≠ k) = true := by simp [e]
      have b : ¬ decide (q.1 ≠ k) = true := by simp [h1.symm.trans e]
      rw [if_neg a, if_neg b]; exact ih
    · have e' : ¬ q.1 = k := fun z => e (h1.trans z)
      have a : decide (p.1 ≠ k) = true := by simp [e]
      have b : decide (q.1 ≠ k) = true := by simp [e']
      rw [if_pos a, if_pos b]; exact .cons ⟨h1, h2⟩ ih
theorem KV.length {kvs : List (κ × V)} {vs : List (κ × Value)} (r : KV kvs vs) : kvs.length = vs.length := Paired.length r
end
theorem kV_is {P : Program} {w : World} {k : Key} {u : Value} (r : RelV (kV k) u) : (mixKind P w).is k u = true := by
  cases k with
  | inl i => obtain ⟨t, e⟩ := (show ∃ t, u = Value.int i t from r); subst e; exact mixKind_int P w i t
  | inr x => obtain ⟨t, e⟩ := (show ∃ t, u = Value.str x t from r); subst e; exact mixKind_str P w x t
theorem items_are {P : Program} {w : World} : ∀ {ks : List Key} {us : List Value}, Vals (ks.map kV) us → ItemsAre (mixKind P w) ks us
  | [], _, r => by rw [List.map_nil] at r; cases r; exact .nil
  | k :: ks, _, r => by
    rw [List.map_cons] at r
    cases r with
    | cons h t => exact .cons (kV_is h) (items_are t)
abbrev KT (H : Hp) : List (List Key × V) → List (List Key × Addr × Value) → Prop := Paired fun p q => p.1 = q.1 ∧ H q.2.1 = some (.tup (p.1.map kV)) ∧ RelV p.2 q.2.2
theorem KT.val {H : Hp} {kvs : List (List Key × V)} {xs : List (List Key × Addr × Value)} (r : KT H kvs xs) (k : List Key) : RelO (valV kvs k) ((atKey xs k).map (·.2)) := by
  induction r with
  | nil => exact True.intro
  | @cons p q ps qs h t ih =>
    obtain ⟨h1, _, h2⟩ := h
    by_cases e : p.1 = k
    · have e' : q.1 = k := h1.symm.trans e
      have b : atKey (q :: qs) k = some q.2 := by simp [atKey, List.find?_cons, e']
      rw [valV_pos e, b]; exact h2
    · have e' : ¬ q.1 = k := fun z => e (h1.trans z)
      have b : atKey (q :: qs) k = atKey qs k := by simp [atKey, List.find?_cons, e']
      rw [valV_neg e, b]; exact ih
theorem KT.repl {H : Hp} {kvs : List (List Key × V)} {xs : List (List Key × Addr × Value)} (r : KT H kvs xs) (k : List Key) {y : V} {u : Value} (ry : RelV y u) :
    KT H (kvs.map fun kv => if kv.1 = k then (kv.1, y) else kv) (xs.map (putAt k u)) := by
  induction r with
  | nil => exact .nil
  | @cons p q ps qs h t ih =>
    rw [List.map_cons, List.map_cons]
    refine .cons ?_ ih
    obtain ⟨h1, h2, h3⟩ := h
    unfold putAt
    by_cases e : p.1 = k
    · rw [if_pos e, if_pos (h1.symm.trans e)]; exact ⟨h1, h2, ry⟩
    · rw [if_neg e, if_neg (fun z => e (h1.trans z))]; exact ⟨h1, h2, h3⟩
theorem KT.put {H : Hp} {kvs : List (List Key × V)} {xs : List (List Key × Addr × Value)} (r : KT H kvs xs) (k : List Key) {b : Addr} {y : V} {u : Value} (hb : H b = some (.tup (k.map kV))) (ry : RelV y u) :
    KT H (putK kvs k y) (storedH xs k b u) := by
  have e : (kvs.any fun kv => decide (kv.1 = k)) = (atKey xs k).isSome := by
    rw [valV_any, (r.val k).isSome_eq, Option.isSome_map]
  unfold putK storedH
  rw [e]
  by_cases q : (atKey xs k).isSome = true
  · rw [if_pos q, if_pos q]; exact r.repl k ry
  · rw [if_neg q, if_neg q]; exact Paired.snoc r ⟨rfl, hb, ry⟩
theorem KT.keeps {H H' : Hp} {kvs : List (List Key × V)} {xs : List (List Key × Addr × Value)} (r : KT H kvs xs) (ht : ∀ b ys, H b = some (.tup ys) → H' b = some (.tup ys)) : KT H' kvs xs :=
  Paired.mapP r fun _ _ z => ⟨z.1, ht _ _ z.2.1, z.2.2⟩
section
variable {P : Program} {w : World} {H : Hp} {h : Heap} {a : Addr}
theorem rd_of {u : HO} (ok : HOk P w H h) (e : Rd H a u) : ObjOk P w H h a u := e.ok ok
theorem dk_rd {kvs : List (Key × V)} (ok : HOk P w H h) (e : Rd H a (.dK kvs)) : kvs.length ≤ sizeLine ∧ (a == sysModules) = false ∧ ∃ vs, KV kvs vs ∧ h.DictOf (mixKind P w) a vs :=
  show ObjOk P w H h a (.dK kvs) from rd_of ok e
theorem dk_of {kvs : List (Key × V)} (ok : HOk P w H h) (e : H a = some (.dK kvs)) : kvs.length ≤ sizeLine ∧ (a == sysModules) = false ∧ ∃ vs, KV kvs vs ∧ h.DictOf (mixKind P w) a vs := dk_rd ok (.inl e)
theorem key_of {ks : List Key} (ok : HOk P w H h) (e : H a = some (.tup (ks.map kV))) : (tupleKind (mixKind P w)).is h ks a := by
  obtain ⟨_, its, r, o, h1, h2, n, h3⟩ := (show ObjOk P w H h a (.tup (ks.map kV)) from ok a _ e)
  exact ⟨o, its.toArray, n, h1, h2, h3, by simpa using items_are r⟩
theorem dt_rd {kvs : List (List Key × V)} (ok : HOk P w H h) (e : Rd H a (.dT kvs)) : kvs.length ≤ sizeLine ∧ (a == sysModules) = false ∧
    ∃ xs, KT H kvs xs ∧ h.DictOfH (tupleKind (mixKind P w)) a xs := by
  obtain ⟨z, y, xs, r, o, es, ep, h1, h2, h3, h4, h5⟩ := (show ObjOk P w H h a (.dT kvs) from rd_of ok e)
  refine ⟨z, y, xs, r, o, es, ep, h1, h2, h3, h4, fun x hx => ?_, h5⟩
  have all : ∀ {l : List (List Key × V)} {m : List (List Key × Addr × Value)}, KT H l m → ∀ x ∈ m, (tupleKind (mixKind P w)).is h x.1 x.2.1 := by
    intro l m q
    induction q with
    | nil => intro x hx; exact nomatch hx
    | @cons p q ps qs hq t ih =>
      intro x hx
      rcases List.mem_cons.mp hx with e | hx
      · subst e
        exact key_of ok (by rw [← hq.1]; exact hq.2.1)
      · exact ih x hx
  exact all r x hx
theorem dt_of {kvs : List (List Key × V)} (ok : HOk P w H h) (e : H a = some (.dT kvs)) : kvs.length ≤ sizeLine ∧ (a == sysModules) = false ∧
    ∃ xs, KT H kvs xs ∧ h.DictOfH (tupleKind (mixKind P w)) a xs := dt_rd ok (.inl e)
end
def DGet (H : Hp) (a : Addr) (y : V) (r : Option V) : Prop :=
  (∃ kvs k, Rd H a (.dK kvs) ∧ y = kV k ∧ r = valV kvs k) ∨ ∃ kvs k b, Rd H a (.dT kvs) ∧ y = .ref b ∧ H b = some (.tup (k.map kV)) ∧ r = valV kvs k
def DPut (H : Hp) (a : Addr) (y v : V) (H' : Hp) : Prop :=
  (∃ kvs k, H a = some (.dK kvs) ∧ y = kV k ∧ kvs.length < sizeLine ∧ H' = upd H a (.dK (putK kvs k v))) ∨
  ∃ kvs k b, H a = some (.dT kvs) ∧ y = .ref b ∧ H b = some (.tup (k.map kV)) ∧ kvs.length < sizeLine ∧ H' = upd H a (.dT (putK kvs k v))
theorem DGet.k {H : Hp} {a : Addr} {kvs : List (Key × V)} {k : Key} (e : H a = some (.dK kvs)) : DGet H a (kV k) (valV kvs k) := .inl ⟨kvs, k, .inl e, rfl, rfl⟩
theorem DGet.t {H : Hp} {a b : Addr} {kvs : List (List Key × V)} {k : List Key} (e : H a = some (.dT kvs)) (eb : H b = some (.tup (k.map kV))) : DGet H a (.ref b) (valV kvs k) := .inr ⟨kvs, k, b, .inl e, rfl, eb, rfl⟩
theorem DPut.k {H : Hp} {a : Addr} {kvs : List (Key × V)} {k : Key} {v : V} (e : H a = some (.dK kvs)) (hl : kvs.length < sizeLine) : DPut H a (kV k) v (upd H a (.dK (putK kvs k v))) := .inl ⟨kvs, k, e, rfl, hl, rfl⟩
theorem DPut.t {H : Hp} {a b : Addr} {kvs : List (List Key × V)} {k : List Key} {v : V} (e : H a = some (.dT kvs)) (eb : H b = some (.tup (k.map kV))) (hl : kvs.length < sizeLine) :
    DPut H a (.ref b) v (upd H a (.dT (putK kvs k v))) := .inr ⟨kvs, k, b, e, rfl, eb, hl, rfl⟩
section
variable {X : Cx} {pins : List (Addr × Obj)} {σ : St} {H : Hp} {s : Shared} {a : Addr} {y v : V} {u r : Value} {o : Option V} {A : Around} {E : Value → Shared → Prop}
theorem Inv.big (I : Inv X pins σ H s) : sysModules < s.heap.objs.size := by
  have h : mainGlobals < s.heap.objs.size := (I.mod.glob.keeps I.bk).lt
  exact Nat.lt_trans (by decide) h
theorem d_getItem {Q : Value → Shared → Prop} (hu : A.units + 1 < cLine) (I : Inv X pins σ H s) (g : DGet H a y (some v)) (ry : RelV y u) (h : ∀ w' s', Inv X pins σ H s' → RelV v w' → Q w' s') :
    wpAny (model X.prog X.w) A (getItem (.ref a) u) Q E s := by
  rcases g with ⟨kvs, k, e, ey, l⟩ | ⟨kvs, k, b, e, ey, eb, l⟩
  · subst ey
    obtain ⟨z, hd, vs, rel, dd⟩ := dk_rd I.hok e
    obtain ⟨w', hw, rw'⟩ := RelO.some_of (v := v) (o := valueAt vs k) (by rw [l]; exact rel.val k)
    exact wpAny_getItem_of (kV_is ry) dd.mapOf hw (h w' _ (I.tok _) rw')
  · subst ey
    cases (show u = Value.ref b from ry)
    obtain ⟨z, hd, xs, rel, dd⟩ := dt_rd I.hok e
    obtain ⟨w', hw, rw'⟩ := RelO.some_of (v := v) (o := (atKey xs k).map (·.2)) (by rw [l]; exact rel.val k)
    obtain ⟨p, hp, hp2⟩ := Option.map_eq_some_iff.mp hw
    refine wpAny_getItem_heap (tupleKind_room_in1 hu) (key_of I.hok eb) dd hp ?_
    rw [hp2]
    exact h w' _ (I.tok _) rw'
theorem d_notIn {Q : Value → Shared → Prop} (hu : A.units + 1 < cLine) (I : Inv X pins σ H s) (g : DGet H a y o) (ry : RelV y u) (h : ∀ s', Inv X pins σ H s' → Q (.bool (!o.isSome)) s') :
    wpAny (model X.prog X.w) A (compareOp .NotIn u (.ref a)) Q E s := by
  rcases g with ⟨kvs, k, e, ey, l⟩ | ⟨kvs, k, b, e, ey, eb, l⟩
  · subst ey
    obtain ⟨z, hd, vs, rel, dd⟩ := dk_rd I.hok e
    refine wpAny_notIn_of (kV_is ry) hd dd.mapOf ?_
    rw [← (rel.val k).isSome_eq, ← l]
    exact h _ (I.tok _)
  · subst ey
    cases (show u = Value.ref b from ry)
    obtain ⟨z, hd, xs, rel, dd⟩ := dt_rd I.hok e
    refine wpAny_notIn_heap (tupleKind_room_in1 hu) (key_of I.hok eb) hd dd ?_
    have q := (rel.val k).isSome_eq
    rw [Option.isSome_map] at q
    rw [← q, ← l]
    exact h _ (I.tok _)
theorem d_write {h' : Heap} {t' : Nat} {ob : HO} (I : Inv X pins σ H s) (mu : Mut (H a)) (hs : Heap.SameBut a s.heap h') (he : ∃ q, h'.get? a = some q) (new : ObjOk X.prog X.w (upd H a ob) h' a ob) :
    Inv X pins σ (upd H a ob) { s with heap := h', toks := t' } :=
  I.write (x := a) (e := a) mu (.inl rfl) (fun b q hb z => (hs.2 b hb).trans z) he new
theorem dk_new {P : Program} {w : World} {H' : Hp} {h' : Heap} {kvs : List (Key × V)} {vs : List (Key × Value)} (z : kvs.length ≤ sizeLine) (hd : (a == sysModules) = false) (rel : KV kvs vs) (dd : h'.DictOf (mixKind P w) a vs) :
    ObjOk P w H' h' a (.dK kvs) := ⟨z, hd, vs, rel, dd⟩
theorem d_setItem {H' : Hp} {Q : Unit → Shared → Prop} (hu : A.units + 1 < cLine) (I : Inv X pins σ H s) (g : DPut H a y v H') (ry : RelV y u) (rv : RelV v r) (h : ∀ s', Inv X pins σ H' s' → Q () s') :
    wpAny (model X.prog X.w) A (setItem (.ref a) u r) Q E s := by
  rcases g with ⟨kvs, k, e, ey, l, eH⟩ | ⟨kvs, k, b, e, ey, eb, l, eH⟩
  · subst ey eH
    obtain ⟨z, hd, vs, rel, dd⟩ := dk_of I.hok e
    have hz : vs.length ≤ sizeLine := by rw [← rel.length]; exact z
    have hl : (putK kvs k v).length ≤ sizeLine := by have := length_putK kvs k v; omega
    refine wpAny_setItem_pairs (hsz := hz) (kV_is ry) dd fun h' dd' hs => h _ ?_
    have he : ∃ q, h'.get? a = some q := let ⟨q, _, _, hq, _⟩ := dd'; ⟨q, hq⟩
    exact d_write I (by rw [e]; exact True.intro) hs he (dk_new hl hd (rel.put k rv) dd')
  · subst ey eH
    cases (show u = Value.ref b from ry)
    obtain ⟨z, hd, xs, rel, dd⟩ := dt_of I.hok e
    have hz : xs.length ≤ sizeLine := by rw [← Paired.length rel]; exact z
    have hl : (putK kvs k v).length ≤ sizeLine := by have := length_putK kvs k v; omega
    refine wpAny_setItem_heap (hsz := hz) (tupleKind_room_in1 hu) (key_of I.hok eb) dd fun h' dd' hs => h _ ?_
    obtain ⟨q, es, ep, hq, h2, h3, h4, _, h5⟩ := dd'
    refine d_write I (by rw [e]; exact True.intro) hs ⟨q, hq⟩ ⟨hl, hd, _, (rel.put k eb rv).keeps fun c ys ec => ?_, q, es, ep, hq, h2, h3, h4, h5⟩
    rw [upd_ne (ne_of ec e (fun z => nomatch z))]
    exact ec
end
section
variable {X : Cx} {pins : List (Addr × Obj)} {σ : St} {H : Hp} {s : Shared} {a : Addr} {kvs : List (Key × V)} {k : Key} {u : Value} {A : Around} {E : Value → Shared → Prop}
theorem d_clear {Q : Value → Shared → Prop} (I : Inv X pins σ H s) (e : H a = some (.dK kvs)) (h : ∀ s', Inv X pins σ (upd H a (.dK [])) s' → Q .none s') : wpAny (model X.prog X.w) A (call (.builtin "dict.clear") [.ref a]) Q E s := by
  obtain ⟨z, hd, vs, rel, dd⟩ := dk_of I.hok e
  refine call_meetsIn PySem.F.slot_dict_clear dd.typeIs PySem.F.entry_dict_clear (PySem.F.args_dict_clear_1 _) (meets_dict_clear (mixKind X.prog X.w) a) ⟨vs, dd, by rw [← rel.length]; exact z, fun h' dd' hs => h _ ?_⟩
  have he : ∃ q, h'.get? a = some q := let ⟨q, _, _, hq, _⟩ := dd'; ⟨q, hq⟩
  exact d_write (t' := s.toks) I (by rw [e]; exact True.intro) hs he (dk_new (Nat.zero_le _) hd .nil dd')
theorem d_len {Q : Value → Shared → Prop} (I : Inv X pins σ H s) (e : Rd H a (.dK kvs)) (h : ∀ t s', Inv X pins σ H s' → Q (.int kvs.length t) s') : wpAny (model X.prog X.w) A (call (.builtin "len") [.ref a]) Q E s := by
  obtain ⟨z, hd, vs, rel, dd⟩ := dk_rd I.hok e
  refine call_len_dict hd dd (by rw [← rel.length]; rw [sizeLine_eq] at z; omega) ?_
  rw [← rel.length]
  exact h _ _ (I.tok _)
end
def NoSl (i : Expr) : Prop := ∀ ov iv, subscripted i false ov iv = operate [ov, iv] (getItem ov iv)
theorem subD_of {prog : Program} {w : World} {A : Around} {E : Value → Shared → Prop} {s : Shared} {env : Env} {value slice : Expr} {pos : Pos} {T id : String} {Q : Value → Shared → Prop}
    (hl : typeLookup (.type T) "__getitem__" = pure (some (.builtin id))) (hs : NoSl slice)
    (h : wpAny (model prog w) A (eval value env) (fun o s₁ => wpAny (model prog w) A (eval slice env) (fun i s₂ => s₂.TypeIs o T ∧ wpAny (model prog w) A (getItem o i) Q E s₂) E s₁) E s) :
    wpAny (model prog w) A (eval (.Subscript value slice pos) env) Q E s := by
  refine Subscript_ (wpAny_mono h (fun o s₁ h₁ => wpAny_mono h₁ (fun i s₂ h₂ => ?_) fun _ _ x => x) fun _ _ x => x)
  obtain ⟨hT, h₂⟩ := h₂
  unfold subscriptTail
  refine wpAny_bind ?_
  rw [getitemInPython_of_ne hT.not_modules]
  refine wpAny_bind (wpAny_specialOf hT hl ?_)
  have fin : wpAny (model prog w) A (subscripted slice false o i) (fun r s₃ => wpAny (model prog w) A (letTemporaryGo value o r >>= fun _ => pure r) Q E s₃) E s₂ := by
    rw [hs o i]
    exact wpAny_operating (wpAny_mono h₂ (fun r s₃ h₃ => wpAny_bind (wpAny_letTemporaryGo (wpAny_pure h₃))) fun _ _ x => x)
  first
    | exact wpAny_pure (wpAny_bind fin)
    | exact wpAny_bind (wpAny_pure (wpAny_bind fin))
    | exact wpAny_bind fin
theorem dict_typeIs {X : Cx} {pins : List (Addr × Obj)} {σ : St} {H : Hp} {s : Shared} {a : Addr} {y : V} {o : Option V} (I : Inv X pins σ H s) (g : DGet H a y o) : s.TypeIs (.ref a) "dict" := by
  rcases g with ⟨kvs, k, e, _, _⟩ | ⟨kvs, k, b, e, _, _, _⟩
  · obtain ⟨_, _, vs, _, dd⟩ := dk_rd I.hok e
    exact dd.typeIs
  · obtain ⟨_, _, xs, _, dd⟩ := dt_rd I.hok e
    exact dd.typeIs
def tDGet (td ty : TE) : TE := fun σ H Q => td σ H fun x H1 => ty σ H1 fun y H2 => ∃ a v, x = .ref a ∧ DGet H2 a y (some v) ∧ Q v H2
def tDNotIn (ty td : TE) : TE := fun σ H Q => ty σ H fun y H1 => td σ H1 fun x H2 => ∃ a o, x = .ref a ∧ DGet H2 a y o ∧ Q (.bl (!o.isSome)) H2
def sDPut (td ty tv : TE) : TS := fun D σ H => tv σ H fun v H1 => td σ H1 fun x H2 => ty σ H2 fun y H3 => ∃ a H4, x = .ref a ∧ DPut H3 a y v H4 ∧ D.nx σ H4
section
variable {X : Cx} {o i e value : Expr} {pos pos' tpos : Pos} {td ty tv : TE}
theorem pe_dget (hu : X.A.units + 1 < cLine) (ho : PE X o td) (hi : PE X i ty) (hs : NoSl i) : PE X (.Subscript o i pos) (tDGet td ty) := by
  intro pins s σ H Q I h
  refine subD_of PySem.F.slot_dict_getitem.lookup hs (thn (ho pins s σ H _ I h) fun u s1 ⟨x, H1, I1, rx, q1⟩ => thn (hi pins s1 σ H1 _ I1 q1) fun iv s2 ⟨y, H2, I2, ry, a, v, ex, g, q2⟩ => ?_)
  subst ex
  obtain rfl : u = Value.ref a := rx
  exact ⟨dict_typeIs I2 g, d_getItem hu I2 g ry fun w' s3 I3 rw' => ⟨v, H2, I3, rw', q2⟩⟩
theorem pc_dnotin (hu : X.A.units + 1 < cLine) (hi : PE X i ty) (ho : PE X o td) : PC X .NotIn i o (tDNotIn ty td) := by
  intro pins s σ H Q I h
  refine thn (hi pins s σ H _ I h) fun iv s1 ⟨y, H1, I1, ry, q1⟩ => thn (ho pins s1 σ H1 _ I1 q1) fun u s2 ⟨x, H2, I2, rx, a, ov, ex, g, q2⟩ => ?_
  subst ex
  obtain rfl : u = Value.ref a := rx
  exact d_notIn hu I2 g ry fun s3 I3 => ⟨.bl (!ov.isSome), H2, I3, rfl, q2⟩
theorem ps_dput (hu : X.A.units + 1 < cLine) (ho : PE X o td) (hi : PE X i ty) (hv : PE X value tv) (hs : swapsWith value (some (.Subscript o i pos')) pos.line X.env = pure false) :
    PS X (.Assign [.Subscript o i pos'] value pos) (sDPut td ty tv) := by
  intro pins s σ H D I h
  refine wpAny_Assign_Subscript (thn (hv pins s σ H _ I h) fun r s1 ⟨v, H1, I1, rv, q1⟩ => thn (ho pins s1 σ H1 _ I1 q1) fun u s2 ⟨x, H2, I2, rx, q2⟩ => thn (hi pins s2 σ H2 _ I2 q2) fun iv s3 ⟨y, H3, I3, ry, a, H4, ex, g, q3⟩ => ?_) hs
  subst ex
  obtain rfl : u = Value.ref a := rx
  exact d_setItem hu I3 g ry rv fun s4 I4 => ⟨σ, H4, I4, q3⟩
end
theorem dk_empty {P : Program} {w : World} {H : Hp} (h : Heap) (hb : sysModules < h.objs.size) : ObjOk P w H (h.push { cls := .type "dict", data := .dict #[] }) h.objs.size (.dK []) :=
  ⟨Nat.zero_le _, beq_eq_false_iff_ne.mpr (Ne.symm (Nat.ne_of_lt hb)), [], .nil, Heap.DictOf.new h⟩
def tDNewK : TE := fun _ H Q => ∀ p, H p = none → Q (.ref p) (upd H p (.dK []))
section
variable {X : Cx} {pos : Pos}
theorem pe_dnewK : PE X (.Dict [] [] pos) tDNewK := fun pins s σ H Q I h =>
  wpAny_Dict_empty ⟨.ref s.heap.objs.size, _, I.laid (a := s.heap.objs.size) (o := .dK []) (t' := s.toks) (fun _ _ q => Heap.get?_push_of_some _ q) (Nat.le_refl _) (dk_empty s.heap I.big), rfl, h _ (I.hok.fresh (Nat.le_refl _))⟩
end
structure M1 (X : Cx) (o : Expr) (m : Str) (apos : Pos) (e : Expr) (cpos : Pos) : Prop where
  base : attributeBase o m X.env (eval o X.env) = eval o X.env
  few : ((backTo cpos (starEach [e] X.env)).all (fun x => !x.1) && (backToKw cpos (keywordEach [] X.env)).all (fun x => x.1.isSome)
    && decide (([e] : List Expr).length + ([] : List Keyword).length + (if ([] : List Keyword).isEmpty then 0 else 1) < 30)) = true
  line : (apos.endLine == cpos.line) = true
  trees : backTo cpos (starEach [e] X.env) = [(false, eval e X.env)]
end L2
namespace L2
open PySem PySem.Spec PyProof.Rows
end L2
namespace L2
open PySem PySem.Spec PyProof.Rows
section
variable {X : Cx} {pins : List (Addr × Obj)} {σ : St} {H : Hp} {s : Shared} {h' : Heap}
theorem Inv.turnedNew {t' : Nat} {ch : List Addr} {T : Addr} {ob : HO} (I : Inv X pins σ H s) (k : ∀ b o, b ∉ ch → s.heap.get? b = some o → h'.get? b = some o) (hf : ∀ b ∈ ch, FpOk X pins H b) (hT : s.heap.objs.size ≤ T)
    (new : ObjOk X.prog X.w (upd H T ob) h' T ob) : Inv X pins σ (upd H T ob) { s with heap := h', toks := t' } := by
  have hn : H T = none := I.hok.fresh hT
  have nit : ∀ b u, H b = some u → b ∉ ch := fun b u e z => by
    have q := (hf b z).1
    rw [q] at e; cases e
  refine I.step (g' := s.gens) (d' := s.drawn) (ch := ch) (fun b hb => ⟨(hf b hb).2.2.2.1, (hf b hb).2.1, (hf b hb).2.2.2.2.1, (hf b hb).2.2.2.2.2⟩) (fun b o _ _ hc e _ => k b o hc e) (fun b o _ _ hc e _ => ⟨o.slots, k b o hc e⟩)
    (fun b o _ e n => ?_) (fun b o hc e => ⟨o, k b o hc e⟩) (fun b xs e => ?_) (fun b o u e => ?_) (fun b ps e => ⟨#[], ?_⟩) (fun m hm => ?_) (fun b u e => ?_) I.bare
  · rw [upd_ne (Nat.ne_of_lt (Nat.lt_of_lt_of_le (Heap.lt_size e) hT))]; exact n
  · rw [upd_ne (ne_of_none e hn)]; exact e
  · rw [upd_ne (ne_of_none e hn)]; exact e
  · rw [upd_ne (ne_of_none e hn), e]; simp
  · obtain ⟨o, es, ep, ho, r⟩ := hm
    exact ⟨o, es, ep, k _ o (fun z => (hf _ z).2.1 rfl) ho, r⟩
  · by_cases hb : b = T
    · subst hb
      rw [upd_same] at e
      cases e
      exact new
    · rw [upd_ne hb] at e
      refine (I.hok b u e).stay (fun c v hc q => k c v ?_ q) (fun c q => by rw [upd_ne (ne_of_none q hn)]; exact q) fun c xs q => by rw [upd_ne (ne_of_none q hn)]; exact q
      rcases hc with z | z
      · rw [z]; exact nit b u e
      · exact nit c _ z
end
def RgC (i j c : Int) (n : Nat) : Prop := c ≠ 0 ∧ c.natAbs < 1073741824 ∧ Builtin.Range.small i j c = true ∧ Builtin.Range.rangeSize i j c = n
theorem RgC.neg {i j : Int} (ha : -(2 ^ 62) ≤ i) (ha' : i < 2 ^ 62) (hb : -(2 ^ 62) ≤ j) (hb' : j < 2 ^ 62) : RgC i j (-1) (i - j).toNat :=
  ⟨by decide, by decide, PySem.W.small_down ha ha' hb hb', PySem.W.rangeSize_downNat i j⟩
def Ite (K : PySem.W.Frag) (a : Addr) : It :=
  ⟨fun i H => ∃ (xs : List V) (x : V), SqL K H a xs ∧ xs[i]? = some x, fun i H v H' => ∃ T x, v = .ref T ∧ H T = none ∧ H' = upd H T (.tup [.int (i : Nat), x]) ∧ ∀ xs, SqL K H a xs → xs[i]? = some x, fun i H => ∃ xs : List V, SqL K H a xs ∧ xs.length ≤ i⟩
theorem turn_enum {P : Program} {w : World} {K : PySem.W.Frag} {elts : List Expr} {kk : Nat} {tpos : Pos} (a e it : Addr) :
    Turn P w K (.Tuple elts kk tpos) (Ite K a) [e, it] e (fun i h => (∃ old, IsEnum h e it ((i : Nat) : Int) old) ∧ h.IsListIter it a i ∧ e ≠ it) where
  mem := by simp
  obj := fun i h st b hb => by
    obtain ⟨⟨old, he⟩, ⟨o, ho, hc, hd⟩, _⟩ := st
    have e' : b = e ∨ b = it := by simpa using hb
    rcases e' with z | z
    · rw [z]; exact ⟨_, he, fun v q => nomatch q⟩
    · rw [z]; exact ⟨o, ho, fun v q => by rw [hd] at q; cases q⟩
  keep := fun i h h' st k => let ⟨⟨old, he⟩, hi, hne⟩ := st; ⟨⟨old, k e (by simp) _ he⟩, hi.at fun o q => k it (by simp) o q, hne⟩
  item := by
    intro X hP hw hK hc i pins s σ H E I hf st hg
    subst hP hw hK
    obtain ⟨⟨old, he⟩, hit, hne⟩ := st
    obtain ⟨xs, x, hq, hx⟩ := hg
    obtain ⟨its, rv, p, hz⟩ := I.list hq
    obtain ⟨u, hu, ru⟩ := rv.get hx
    have hel : e < s.heap.objs.size := Heap.lt_size he
    have hil : it < s.heap.objs.size := by obtain ⟨_, q, _⟩ := hit; exact Heap.lt_size q
    refine wpAny_pyNext_enum_item he hit p.isList (x := u) (by simpa using hu) hne fun h' ho hit' hT hsz hk => ?_
    refine ⟨_, rfl, wpAny_letOwnedTupleGo_enum (s := { s with heap := h', toks := s.toks + 1 }) ho fun h'' he' sb => ?_⟩
    have hT2 : h''.get? s.heap.objs.size = some { cls := .type "tuple", data := .seq #[.int i s.toks, u] } := (sb.2 _ (Nat.ne_of_gt hel)).trans hT
    have new : ObjOk X.prog X.w (upd H s.heap.objs.size (.tup [.int (i : Nat), x])) h'' s.heap.objs.size (.tup [.int (i : Nat), x]) :=
      ⟨by show 2 ≤ sizeLine; decide, [.int i s.toks, u], .cons ⟨_, rfl⟩ (.cons ru .nil), ⟨_, hT2, rfl, _, rfl⟩⟩
    have I1 : Inv X pins σ (upd H s.heap.objs.size (.tup [.int (i : Nat), x])) { s with heap := h'', toks := s.toks + 1 } :=
      I.turnedNew (ch := [e, it]) (fun b ob hb q => (sb.2 b (fun z => hb (by simp [z]))).trans (hk b ob (fun z => hb (by simp [z])) (fun z => hb (by simp [z])) q)) hf (Nat.le_refl _) new
    refine ⟨.ref s.heap.objs.size, _, I1, rfl, ⟨_, x, rfl, I.hok.fresh (Nat.le_refl _), rfl, fun ys hy => by rw [I.list_inj hy hq]; exact hx⟩, ⟨⟨u, ?_⟩, hit'.at fun o q => (sb.2 it (Ne.symm hne)).trans q, hne⟩, fun b hb => ?_⟩
    · have e1 : ((i + 1 : Nat) : Int) = (i : Int) + 1 := by omega
      rw [e1]; exact he'
    · have hb' : b < s.heap.objs.size := by
        have e' : b = e ∨ b = it := by simpa using hb
        rcases e' with z | z
        · rw [z]; exact hel
        · rw [z]; exact hil
      rw [upd_ne (Nat.ne_of_lt hb')]
      exact (hf b hb).1
  done := by
    intro X hP hw hK hc i pins s σ H E I hf st hg
    subst hP hw hK
    obtain ⟨⟨old, he⟩, hit, hne⟩ := st
    obtain ⟨xs, hq, hx⟩ := hg
    obtain ⟨its, rv, p, hz⟩ := I.list hq
    obtain ⟨f0, f1, f2, f3, f4, f5⟩ := hf it (by simp)
    have hl := rv.length
    exact wpAny_pyNext_enum_end (I.ok.hd hc) he hit p.isList (by simp; omega) fun h' eb => ⟨rfl, I.turned (t' := s.toks) (fun b o hb q => eb b o hb q) f0 f1 f3 f4 f5⟩
  self := fun A i s Q E st h => let ⟨⟨_, he⟩, _⟩ := st; wpAny_pyIter_enum he h
def iEnum (K : PySem.W.Frag) (ta : TA) : TI := fun σ H R => ta σ H fun vs H1 => ∃ a xs, vs = [.ref a] ∧ SqL K H1 a xs ∧ R (Ite K a) H1
theorem pi_enum {X : Cx} {e : Expr} {ta : TA} {p pos tpos : Pos} {elts : List Expr} {kk : Nat} (hg : Gl X "enumerate") (hm : X.mg "enumerate" = none) (ha : PA X [e] ta) (hs : starEach [e] X.env = [(false, eval e X.env)] := by rfl) :
    PI X (.Tuple elts kk tpos) (.Call (.Name "enumerate" p) [e] [] pos) (iEnum X.K ta) := by
  intro pins s σ H R I h
  refine Call_ (ld_blt I hg hm boot_enumerate (PyProof.Rows.callWith_type1 (thn (ha pos pins s σ H _ I h) fun us s1 ⟨vs, H1, I1, r1, q1⟩ => ?_) hs rfl))
  obtain ⟨a, xs, ex, hq, q⟩ := q1
  subst ex
  cases r1 with
  | cons r rr =>
    cases rr
    cases r
    obtain ⟨its, rv, p', hz⟩ := I1.list hq
    refine call_enumerate_list p'.isList fun h' he hit hsz hk => wpAny_pyIter_enum he ?_
    have I2 : Inv X pins σ H1 { s1 with heap := h' } := I1.kept (t' := s1.toks) hk
    refine ⟨s1.heap.objs.size + 1, [s1.heap.objs.size + 1, s1.heap.objs.size], _, _, H1, rfl, I2, turn_enum a (s1.heap.objs.size + 1) s1.heap.objs.size, ⟨⟨.none, he⟩, hit, Nat.succ_ne_self _⟩, fun b hb => ?_, q⟩
    have e' : b = s1.heap.objs.size + 1 ∨ b = s1.heap.objs.size := by simpa using hb
    have hle : s1.heap.objs.size ≤ b := by
      rcases e' with z | z
      · rw [z]; exact Nat.le_add_right _ _
      · rw [z]; exact Nat.le_refl _
    exact I1.fpOk hle (I1.hok.fresh hle)
end L2
section 
namespace Bits
open PySem PyProof.Rows
end Bits
end 
section 
namespace TL
open PySem PySem.Builtin PySem.Builtin.Str PySem.StrLaws
abbrev tl (x : Str) : List Nat := x.cps.toList
def pre (S l : List Nat) : Bool := l.take S.length == S
def par (S : List Nat) : List Nat → List Nat → Option (List Nat × List Nat)
  | _, [] => none
  | acc, c :: r => if pre S (c :: r) = true then some (acc, (c :: r).drop S.length) else par S (acc ++ [c]) r
end TL
end 
namespace L2
open PySem PySem.Spec PyProof.Rows
end L2
namespace L2
open PySem PySem.Spec PyProof.Rows
end L2
namespace Att
open PySem PySem.W PySem.Calls PyProof.Rows
theorem ints_of_wellAll {P : Params} {h : Heap} : ∀ (ns : List Int) (vs : List Value), WellAll P h vs (ns.map WData.int) → IntsAre vs ns := by
  intro ns
  induction ns with
  | nil =>
    intro vs w
    rw [List.map_nil] at w
    cases w
    exact .nil
  | cons n ns ih =>
    intro vs w
    rw [List.map_cons] at w
    cases w with
    | cons a b =>
      cases a
      exact .cons _ _ (ih _ b)
end Att
namespace L2
open PySem PySem.Spec PyProof.Rows
theorem vals_ints : ∀ {vs : List Value} {ns : List Int}, IntsAre vs ns → Vals (ns.map V.int) vs
  | _, _, .nil => .nil
  | _, _, .cons n t h => .cons ⟨t, rfl⟩ (vals_ints h)
def Only (H : Hp) : Prop := ∀ b, H b = none ∨ ∃ o xs, H b = some (.frz o (.lst xs))
end L2
namespace L2
open PySem PySem.Spec PyProof.Rows
end L2
namespace L2
open PySem PySem.Spec PyProof.Rows
def inClass (s : Stmt) (j : Nat) : Stmt := match s with
  | .ClassDef _ _ _ body _ _ _ _ _ _ _ => body.getD j (.Pass ⟨0, 0, 0, 0⟩)
  | _ => .Pass ⟨0, 0, 0, 0⟩
def defArgs (s : Stmt) : Arguments := match s with
  | .FunctionDef _ a _ _ _ _ _ _ _ _ => a
  | _ => { posonlyargs := [], args := [], vararg := none, kwonlyargs := [], kw_defaults := [], kwarg := none, defaults := [] }
def defBody (s : Stmt) : List Stmt := match s with
  | .FunctionDef _ _ b _ _ _ _ _ _ _ => b
  | _ => []
def defScope (s : Stmt) : Scope := match s with
  | .FunctionDef _ _ _ _ _ _ sc _ _ _ => sc
  | _ => { kind := .function, names := [], isGenerator := false, isCoroutine := false }
abbrev CX0 : CXT := fun _ _ _ _ _ _ => False
abbrev E0 : XK := fun _ _ _ => False
theorem pass0 {X : Cx} : Passes CX0 X E0 := fun _ _ _ _ _ _ _ h => h.elim
structure Fun (K : PySem.W.Frag) (x qual : Str) (st : Stmt) (f : Addr) (fd : FuncData) : Prop where
  ex : ∃ (oc : Value) (od : Option Addr) (kV doc pm : Value) (an : Option Addr) (cdv ct : Value) (osl : Array (Option Value)),
    fd = PySem.W.fnOf x qual (defArgs st) (defBody st) (defScope st) .none kV doc pm an cdv ct ∧ K.lookup f = some ⟨oc, od, .func fd, osl⟩ ∧ PySem.W.codeIn K cdv qual = true
  kp : PySem.W.keepIn K (.ref f) = true
section
variable {P : Program} {w : World} {K : PySem.W.Frag} {mg : Str → Option Value} {base : Heap}
theorem Fun.ok {x qual : Str} {st : Stmt} {f : Addr} {fd : FuncData} {N ps : List Str} {k : Nat} {sp : Sp} (F : Fun K x qual st f fd) (S : FnScope N ps (defScope st)) (len : ∀ vs H Q E, sp vs H Q E → vs.length = ps.length)
    (hbody : ∀ (cdv : Value) (A : Around) (outer : List Env) (s : Shared) (H : Hp) (vs : List V) (Q : VK) (E : XK), Room k (A.deeper (envOfC qual (defScope st) s.heap.objs.size f cdv)) → sp vs H Q E →
      ∃ t, PSs (cxOf CX0 P w K mg base N qual (defScope st) f cdv A outer s H E).nox (defBody st) t ∧ t { nx := fun _ H' => Q .non H', rt := Q } (start N vs) H) : FnOk P w K mg base CX0 (k + 1) f fd ps sp := by
  obtain ⟨oc, od, kV, doc, pm, an, cdv, ct, osl, rfl, lk, hcd⟩ := F.ex
  refine fn_of lk hcd S len fun A outer s H vs Q E hr hsp => ?_
  obtain ⟨t, h, q⟩ := hbody cdv A outer s H vs Q E hr hsp
  exact ⟨t, h.nox, q⟩
theorem Fun.binds {x qual : Str} {st : Stmt} {f : Addr} {fd : FuncData} {ps : List Str} (F : Fun K x qual st f fd)
    (h : ∀ (kV doc pm : Value) (an : Option Addr) (cdv ct : Value) (us : List Value), us.length = ps.length → bindArgs (PySem.W.fnOf x qual (defArgs st) (defBody st) (defScope st) .none kV doc pm an cdv ct) ⟨us, []⟩ = pure (ps.zip us)) : Binds K fd ps [] := by
  obtain ⟨oc, od, kV, doc, pm, an, cdv, ct, osl, rfl, lk, hcd⟩ := F.ex
  exact .all (h kV doc pm an cdv ct)
theorem fun_mk {x qual : Str} {st : Stmt} {f : Addr} {oc : Value} {od an : Option Addr} {osl : Array (Option Value)} {kV doc pm cdv ct : Value} (l : K.lookup f = some ⟨oc, od, .func (PySem.W.fnOf x qual (defArgs st) (defBody st) (defScope st) .none kV doc pm an cdv ct), osl⟩)
    (c : PySem.W.codeIn K cdv qual = true) (k : PySem.W.keepIn K (.ref f) = true) : Fun K x qual st f (PySem.W.fnOf x qual (defArgs st) (defBody st) (defScope st) .none kV doc pm an cdv ct) := ⟨⟨oc, od, kV, doc, pm, an, cdv, ct, osl, rfl, l, c⟩, k⟩
end
theorem hu_of {A : Around} {k : Nat} (hr : Room k A) : A.units + 1 < cLine := Nat.lt_of_le_of_lt (Nat.add_le_add_left (by decide : 1 ≤ 64) _) hr.units
section
variable {X : Cx}
theorem pv (i : Nat) {x : Str} {pos : Pos} (hN : X.N[i]? = some x := by rfl) (hv : Vis X.env.scope x := by first | exact Or.inl rfl | exact Or.inr (Or.inl rfl) | exact Or.inr (Or.inr rfl)) (hd : (x == ("__debug__" : Str)) = false := by decide)
    (hcd : (x == ("__classdict__" : Str)) = false := by decide) : PE X (.Name x pos) (tVar i) := pe_var hN hv hd hcd
end
theorem iteF {A B : Prop} (h : B) : if false = true then A else B := by
  rw [if_neg Bool.false_ne_true]
  exact h
theorem iteT {A B : Prop} (h : A) : if true = true then A else B := by
  rw [if_pos rfl]
  exact h
theorem ite2 {c A B : Prop} [Decidable c] (h1 : c → A) (h2 : ¬ c → B) : if c then A else B := by
  by_cases h : c
  · rw [if_pos h]
    exact h1 h
  · rw [if_neg h]
    exact h2 h
def Same (H H' : Hp) : Prop := ∀ b o, H b = some o → H' b = some o
theorem Same.trans {H H1 H2 : Hp} (a : Same H H1) (b : Same H1 H2) : Same H H2 := fun c o h => b c o (a c o h)
theorem Same.free {H H' : Hp} (e : Same H H') {l : Addr} (h : H' l = Option.none) : H l = Option.none := by
  cases q : H l with
  | none => rfl
  | some o =>
    rw [e l o q] at h
    cases h
theorem Same.seq {K : PySem.W.Frag} {H H' : Hp} {a : Addr} {xs : List V} (e : Same H H') (h : SqL K H a xs) : SqL K H' a xs := by
  rcases h with (h | ⟨o, h⟩) | h
  · exact .inl (.inl (e _ _ h))
  · exact .inl (.inr ⟨o, e _ _ h⟩)
  · exact .inr h
theorem at_of {xs : List V} {z : Int} {j : Nat} {v : V} (e : z = (j : Int)) (h : xs[j]? = some v) : atI xs z = some v := by
  rw [e]
  exact atI_nat h
theorem Same.made {H H1 : Hp} {x dx C : Addr} (nx : H x = Option.none) (nd : H dx = Option.none) (k : ∀ b o, (upd (upd H dx (.own x)) x (.ins C dx [])) b = some o → b ≠ x → H1 b = some o) : Same H H1 := fun b o e =>
  k b o (by rw [upd_ne (ne_of_none e nx), upd_ne (ne_of_none e nd)]; exact e) (ne_of_none e nx)
end L2
end
section
namespace Sp8
open Sg08
theorem WORD_eq : WORD = 18446744073709551616 := by decide
theorem wrap_lt (z : Int) : wrap z < WORD := by
  unfold wrap
  rw [WORD_eq]
  have h1 := Int.emod_lt_of_pos z (show (0 : Int) < 2 ^ 64 by decide)
  have h2 := Int.emod_nonneg z (show (2 ^ 64 : Int) ≠ 0 by decide)
  have e : (2 ^ 64 : Int) = 18446744073709551616 := by decide
  omega
theorem wrap_cast (z : Int) : ((wrap z : Nat) : Int) = z % 18446744073709551616 := by
  unfold wrap
  have h2 := Int.emod_nonneg z (show (2 ^ 64 : Int) ≠ 0 by decide)
  have e : (2 ^ 64 : Int) = 18446744073709551616 := by decide
  rw [e] at h2 ⊢
  omega
theorem alu_lt (o : Alu) {a b : Nat} (ha : a < WORD) (hb : b < WORD) : o.of a b < WORD := by
  have hW : (0 : Nat) < WORD := by decide
  cases o <;> simp only [Alu.of]
  case add => exact Nat.mod_lt _ hW
  case sll => exact Nat.mod_lt _ hW
  case slt => split <;> decide
  case sltu => split <;> decide
  case xor => exact Nat.xor_lt_two_pow ha hb
  case srl => exact Nat.lt_of_le_of_lt (Nat.div_le_self _ _) ha
  case or => exact Nat.or_lt_two_pow ha hb
  case and => exact Nat.and_lt_two_pow a hb
  case mul => exact Nat.mod_lt _ hW
  case mulhu =>
    refine Nat.div_lt_of_lt_mul ?_
    exact Nat.mul_lt_mul'' ha hb
  case divu =>
    split
    · decide
    · exact Nat.lt_of_le_of_lt (Nat.div_le_self _ _) ha
  case remu =>
    split
    · exact ha
    · exact Nat.lt_of_le_of_lt (Nat.mod_le _ _) ha
  all_goals exact wrap_lt _
theorem number_lt (m : Nat → UInt8) (a : Nat) : ∀ n, number m a n < 256 ^ n := by
  have key : ∀ (l : List Nat), l.foldr (fun i x => (m (a + i)).toNat + 256 * x) 0 < 256 ^ l.length := by
    intro l
    induction l with
    | nil => exact (by decide : 0 < 1)
    | cons i l ih =>
      rw [List.foldr_cons, List.length_cons, Nat.pow_succ]
      have h1 := (m (a + i)).toNat_lt
      omega
  intro n
  have h := key (List.range n)
  rw [List.length_range] at h
  exact h
theorem number_1 (m : Nat → UInt8) (a : Nat) : number m a 1 = (m a).toNat := by
  simp [number, List.range_succ]
theorem number_2 (m : Nat → UInt8) (a : Nat) : number m a 2 = (m a).toNat + 256 * (m (a + 1)).toNat := by
  simp [number, List.range_succ]
theorem number_4 (m : Nat → UInt8) (a : Nat) : number m a 4 = (m a).toNat + 256 * (m (a + 1)).toNat + 65536 * (m (a + 2)).toNat + 16777216 * (m (a + 3)).toNat := by
  simp only [number, List.range_succ, List.range_zero, List.nil_append, List.cons_append, List.foldr_cons, List.foldr_nil, Nat.add_zero]
  omega
theorem number_8 (m : Nat → UInt8) (a : Nat) : number m a 8 = (m a).toNat + 256 * (m (a + 1)).toNat + 65536 * (m (a + 2)).toNat + 16777216 * (m (a + 3)).toNat
    + 4294967296 * (m (a + 4)).toNat + 1099511627776 * (m (a + 5)).toNat + 281474976710656 * (m (a + 6)).toNat + 72057594037927936 * (m (a + 7)).toNat := by
  simp only [number, List.range_succ, List.range_zero, List.nil_append, List.cons_append, List.foldr_cons, List.foldr_nil, Nat.add_zero]
  omega
theorem number_congr {m m' : Nat → UInt8} {a n : Nat} (h : ∀ i, i < n → m (a + i) = m' (a + i)) : number m a n = number m' a n := by
  unfold number
  have key : ∀ l : List Nat, (∀ i ∈ l, i < n) → l.foldr (fun i x => (m (a + i)).toNat + 256 * x) 0 = l.foldr (fun i x => (m' (a + i)).toNat + 256 * x) 0 := by
    intro l hl
    induction l with
    | nil => rfl
    | cons i l ih => rw [List.foldr_cons, List.foldr_cons, ih (fun j hj => hl j (List.mem_cons_of_mem _ hj)), h i (hl i List.mem_cons_self)]
  exact key _ fun i hi => List.mem_range.mp hi
theorem sizeOf_cases {k : Nat} : Sg08.sizeOf k = 1 ∨ Sg08.sizeOf k = 2 ∨ Sg08.sizeOf k = 4 ∨ Sg08.sizeOf k = 8 := by
  unfold Sg08.sizeOf
  have h : k % 4 < 4 := Nat.mod_lt _ (by decide)
  rcases (show k % 4 = 0 ∨ k % 4 = 1 ∨ k % 4 = 2 ∨ k % 4 = 3 by omega) with e | e | e | e <;> rw [e] <;> decide
theorem loaded_lt (k n : Nat) (h : n < 256 ^ Sg08.sizeOf k) : loaded k n < WORD := by
  unfold loaded
  split
  · exact wrap_lt _
  · refine Nat.lt_of_lt_of_le h ?_
    rcases sizeOf_cases (k := k) with e | e | e | e <;> rw [e] <;> decide
theorem whole_set {m : Machine} {r v : Nat} (h : Whole m) (hv : v < WORD) : Whole (Sg08.set m r v) := by
  unfold Sg08.set
  split
  · exact h
  · rename_i hr
    refine ⟨⟨?_, fun i => ?_⟩, h.pc⟩
    · show (if 0 = r then v else m.regs 0) = 0
      rw [if_neg (fun e => hr e.symm)]
      exact h.regs.1
    · show (if i = r then v else m.regs i) < WORD
      split
      · exact hv
      · exact h.regs.2 i
theorem set_pc (m : Machine) (r v : Nat) : (Sg08.set m r v).pc = m.pc := by unfold Sg08.set; split <;> rfl
theorem set_mem (m : Machine) (r v : Nat) : (Sg08.set m r v).mem = m.mem := by unfold Sg08.set; split <;> rfl
theorem set_why (m : Machine) (r v : Nat) : (Sg08.set m r v).why = m.why := by unfold Sg08.set; split <;> rfl
theorem whole_fresh : Whole fresh := ⟨⟨rfl, fun _ => (by decide : 0 < WORD)⟩, (by decide : 0 < WORD), rfl⟩
def iter : Nat → Machine → Option Machine
  | 0, m => some m
  | k + 1, m => match Sg08.step m with
    | .error _ => none
    | .ok n => iter k n
theorem iter_snoc : ∀ (k : Nat) (m n : Machine), iter k m = some n → iter (k + 1) m = match Sg08.step n with | .error _ => none | .ok n' => some n'
  | 0, m, n, h => by
    simp only [iter, Option.some.injEq] at h
    subst h
    show (match Sg08.step m with | .error _ => none | .ok n => iter 0 n) = _
    cases Sg08.step m <;> rfl
  | k + 1, m, n, h => by
    have h : (match Sg08.step m with | .error _ => none | .ok n => iter k n) = some n := h
    show (match Sg08.step m with | .error _ => none | .ok n => iter (k + 1) n) = _
    cases e : Sg08.step m with
    | error _ => rw [e] at h; cases h
    | ok n1 =>
      rw [e] at h
      exact iter_snoc k n1 n h
theorem run_iter : ∀ (k j : Nat) (m n : Machine), iter k m = some n → Sg08.run (k + j) m = ((Sg08.run j n).1 + k, (Sg08.run j n).2)
  | 0, j, m, n, h => by
    simp only [iter, Option.some.injEq] at h
    subst h
    rw [Nat.zero_add, Nat.add_zero]
  | k + 1, j, m, n, h => by
    have h : (match Sg08.step m with | .error _ => none | .ok n => iter k n) = some n := h
    have e0 : k + 1 + j = (k + j) + 1 := by omega
    rw [e0]
    simp only [Sg08.run]
    cases e : Sg08.step m with
    | error _ => rw [e] at h; cases h
    | ok n1 =>
      rw [e] at h
      have ih := run_iter k j n1 n h
      simp only
      rw [ih]
      exact Prod.ext (by show (Sg08.run j n).1 + k + 1 = (Sg08.run j n).1 + (k + 1); omega) rfl
theorem run_all {k : Nat} {m n : Machine} (h : iter k m = some n) : Sg08.run k m = (k, { n with why := 0 }) := by
  have e := run_iter k 0 m n h
  rw [Nat.add_zero] at e
  rw [e]
  simp [Sg08.run]
theorem run_stop {k j e : Nat} {m n : Machine} (h : iter k m = some n) (hj : k < j) (hs : Sg08.step n = .error e) : Sg08.run j m = (k, { n with why := e }) := by
  have e1 := run_iter k (j - k) m n h
  rw [show k + (j - k) = j by omega] at e1
  rw [e1]
  obtain ⟨i, hi⟩ : ∃ i, j - k = i + 1 := ⟨j - k - 1, by omega⟩
  rw [hi]
  simp [Sg08.run, hs]
def evenI : Instr → Prop
  | .jal _ z => z % 2 = 0
  | .branch _ _ _ z => z % 2 = 0
  | _ => True
theorem signed_even {k n : Nat} (hk : 0 < k) (h : n % 2 = 0) : signed k n % 2 = 0 := by
  obtain ⟨j, rfl⟩ : ∃ j, k = j + 1 := ⟨k - 1, by omega⟩
  have e : (2 : Nat) ^ (j + 1) = 2 * 2 ^ j := by rw [Nat.pow_succ]; omega
  have ei : (2 : Int) ^ (j + 1) = 2 * 2 ^ j := by rw [Int.pow_succ]; omega
  have h1 : n % 2 ^ (j + 1) % 2 = 0 := by
    rw [e, Nat.mod_mul_right_mod]
    exact h
  unfold signed
  split
  · omega
  · rw [ei]
    generalize (2 : Int) ^ j = t
    omega
theorem immB_even (w : Nat) : immB w % 2 = 0 := by
  unfold immB
  refine signed_even (by decide) ?_
  unfold at_
  omega
theorem immJ_even (w : Nat) : immJ w % 2 = 0 := by
  unfold immJ
  refine signed_even (by decide) ?_
  unfold at_
  omega
theorem immCJ_even (w : Nat) : immCJ w % 2 = 0 := by
  unfold immCJ
  refine signed_even (by decide) ?_
  unfold at_
  omega
theorem immCB_even (w : Nat) : immCB w % 2 = 0 := by
  unfold immCB
  refine signed_even (by decide) ?_
  unfold at_
  omega
theorem even_long {w : Nat} {i : Instr} (h : long w = some i) : evenI i := by
  unfold long at h
  have hj := immJ_even w
  have hb := immB_even w
  generalize immJ w = zj at h hj
  generalize immB w = zb at h hb
  generalize immI w = zi at h
  generalize immS w = zs at h
  generalize immU w = zu at h
  generalize bits w 6 0 = op at h
  generalize bits w 11 7 = rd at h
  generalize bits w 14 12 = f3 at h
  generalize bits w 19 15 = rs at h
  generalize bits w 24 20 = r2 at h
  generalize bits w 31 25 = f7 at h
  generalize bits w 31 26 = f6 at h
  generalize bits w 25 20 = sh at h
  simp only at h
  repeat' split at h
  all_goals first
    | (cases h; done)
    | (cases h; exact True.intro)
    | (cases h; exact hj)
    | (cases h; exact hb)
    | (simp only [Option.map_eq_some_iff] at h; obtain ⟨_, _, rfl⟩ := h; exact True.intro)
theorem even_short {w : Nat} {i : Instr} (h : short w = some i) : evenI i := by
  unfold short at h
  have hj := immCJ_even w
  have hb := immCB_even w
  generalize immCJ w = zj at h hj
  generalize immCB w = zb at h hb
  generalize bits w 1 0 = q at h
  generalize bits w 15 13 = f at h
  generalize bits w 11 10 = g at h
  generalize bits w 12 12 = g2 at h
  generalize bits w 6 5 = g3 at h
  simp only at h
  repeat' split at h
  all_goals first
    | (cases h; done)
    | (cases h; exact True.intro)
    | (cases h; exact hj)
    | (cases h; exact hb)
theorem even_fetch {m : Machine} {i : Instr} {n : Nat} (h : fetch m = .ok (i, n)) : evenI i ∧ (n = 2 ∨ n = 4) := by
  unfold fetch at h
  split at h
  · cases h
  · simp only at h
    split at h
    · split at h
      · rename_i e
        cases h
        exact ⟨even_short e, .inl rfl⟩
      · cases h
    · split at h
      · cases h
      · split at h
        · rename_i e
          cases h
          exact ⟨even_long e, .inr rfl⟩
        · cases h
theorem wrap_even {z : Int} (h : z % 2 = 0) : wrap z % 2 = 0 := by
  have := wrap_cast z
  omega
theorem whole_step {m n : Machine} (h : Whole m) (e : Sg08.step m = .ok n) : Whole n := by
  unfold Sg08.step at e
  cases q : fetch m with
  | error _ => rw [q] at e; cases e
  | ok x =>
    obtain ⟨i, k⟩ := x
    obtain ⟨ev, hk⟩ := even_fetch q
    rw [q] at e
    simp only at e
    have hp := h.pc
    rw [WORD_eq] at hp
    have hgo : Whole { m with pc := (m.pc + k) % WORD } := ⟨h.regs, Nat.mod_lt _ (by decide), by show (m.pc + k) % WORD % 2 = 0; rw [WORD_eq]; omega⟩
    cases i with
    | imm o rd rs z => cases e; exact whole_set hgo (alu_lt o (h.regs.2 _) (wrap_lt _))
    | reg o rd a b => cases e; exact whole_set hgo (alu_lt o (h.regs.2 _) (h.regs.2 _))
    | lui rd z => cases e; exact whole_set hgo (wrap_lt _)
    | auipc rd z => cases e; exact whole_set hgo (wrap_lt _)
    | jal rd z =>
      cases e
      have w := whole_set (r := rd) hgo hgo.pc.1
      refine ⟨w.regs, wrap_lt _, wrap_even ?_⟩
      have ev : z % 2 = 0 := ev
      omega
    | jalr rd rs z =>
      cases e
      have w := whole_set (r := rd) hgo hgo.pc.1
      have hw := wrap_lt ((m.regs rs : Int) + z)
      refine ⟨w.regs, ?_, ?_⟩
      · show wrap ((m.regs rs : Int) + z) / 2 * 2 < WORD
        omega
      · show wrap ((m.regs rs : Int) + z) / 2 * 2 % 2 = 0
        omega
    | branch kd a b z =>
      cases e
      split
      · refine ⟨h.regs, wrap_lt _, wrap_even ?_⟩
        have ev : z % 2 = 0 := ev
        omega
      · exact hgo
    | load kd rd rs z =>
      simp only at e
      split at e
      · cases e
        exact whole_set hgo (loaded_lt _ _ (number_lt _ _ _))
      · cases e
    | store kd rs b z =>
      simp only at e
      split at e
      · cases e
        exact ⟨hgo.regs, hgo.pc⟩
      · cases e
    | fence => cases e; exact hgo
    | ecall => cases e
    | ebreak => cases e
theorem whole_iter : ∀ (k : Nat) (m n : Machine), Whole m → iter k m = some n → Whole n
  | 0, m, n, h, e => by cases e; exact h
  | k + 1, m, n, h, e => by
    have e : (match Sg08.step m with | .error _ => none | .ok n => iter k n) = some n := e
    cases q : Sg08.step m with
    | error _ => rw [q] at e; cases e
    | ok n1 =>
      rw [q] at e
      exact whole_iter k n1 n (whole_step h q) e
end Sp8
end
section
namespace Sp8
open Sg08
def wrapZ (z : Int) : Int := z % 18446744073709551616
def fieldZ (z l n : Int) : Int := z / 2 ^ l.toNat % 2 ^ n.toNat
def signedZ (z n : Int) : Int := if fieldZ z (n - 1) 1 = 1 then fieldZ z 0 n - 2 ^ n.toNat else fieldZ z 0 n
def extendZ (z n : Int) : Int := wrapZ (signedZ z n)
theorem wrapZ_wrap (z : Int) : wrapZ z = ((wrap z : Nat) : Int) := (wrap_cast z).symm
theorem wrapZ_nat (n : Nat) : wrapZ (n : Int) = ((n % WORD : Nat) : Int) := by
  unfold wrapZ; rw [WORD_eq]; omega
theorem pow_cast (n : Nat) : ((2 ^ n : Nat) : Int) = 2 ^ n := by
  induction n with
  | zero => rfl
  | succ n ih => rw [Nat.pow_succ, Int.pow_succ, Int.natCast_mul, ih]; rfl
theorem fieldZ_nat (z l n : Nat) : fieldZ (z : Int) (l : Int) (n : Int) = ((z / 2 ^ l % 2 ^ n : Nat) : Int) := by
  unfold fieldZ
  rw [Int.toNat_natCast, Int.toNat_natCast, ← pow_cast, ← pow_cast]
  rfl
theorem pow_pos (n : Nat) : (0 : Int) < 2 ^ n := by
  rw [← pow_cast]
  exact Int.natCast_pos.mpr (Nat.pow_pos (by decide))
theorem fieldZ_nn (z l n : Int) : 0 ≤ fieldZ z l n := Int.emod_nonneg _ (Int.ne_of_gt (pow_pos _))
theorem fieldZ_lt (z l n : Int) : fieldZ z l n < 2 ^ n.toNat := Int.emod_lt_of_pos _ (pow_pos _)
theorem toNat_emod (z : Int) (k : Nat) : ((z % 2 ^ k).toNat : Int) = z % 2 ^ k := Int.toNat_of_nonneg (Int.emod_nonneg _ (Int.ne_of_gt (pow_pos k)))
theorem bit_of (k m r : Nat) (hr : r < 2 ^ (k + 1)) : (r / 2 ^ k % 2 = 1) = ¬ (r < 2 ^ k) := by
  have e : 2 ^ (k + 1) = 2 * 2 ^ k := by rw [Nat.pow_succ]; omega
  have h2 : r / 2 ^ k < 2 := Nat.div_lt_of_lt_mul (by omega)
  have hp : 0 < 2 ^ k := Nat.pow_pos (by decide)
  by_cases h : r < 2 ^ k
  · rw [Nat.div_eq_of_lt h]; simp [h]
  · have h1 : 1 ≤ r / 2 ^ k := (Nat.le_div_iff_mul_le hp).mpr (by omega)
    have : r / 2 ^ k = 1 := by omega
    rw [this]; simp [h]
theorem div_mod_pow (z : Int) (k : Nat) : z / 2 ^ k % 2 = (z % 2 ^ (k + 1)) / 2 ^ k := by
  have hp := pow_pos k
  have e : (2 : Int) ^ (k + 1) = 2 ^ k * 2 := by rw [Int.pow_succ]
  rw [e]
  generalize (2 : Int) ^ k = p at hp
  have h1 := Int.mul_ediv_add_emod z p
  have h2 := Int.mul_ediv_add_emod (z / p) 2
  have b1 := Int.emod_nonneg z (Int.ne_of_gt hp)
  have b2 := Int.emod_lt_of_pos z hp
  have b3 := Int.emod_nonneg (z / p) (show (2 : Int) ≠ 0 by decide)
  have b4 := Int.emod_lt_of_pos (z / p) (show (0 : Int) < 2 by decide)
  have key : z % (p * 2) = p * (z / p % 2) + z % p := by
    have : z = (p * 2) * (z / p / 2) + (p * (z / p % 2) + z % p) := by
      have : p * (z / p) = p * (2 * (z / p / 2)) + p * (z / p % 2) := by rw [← Int.mul_add, h2]
      have e3 : p * (2 * (z / p / 2)) = (p * 2) * (z / p / 2) := by rw [Int.mul_assoc]
      omega
    have hlt : p * (z / p % 2) + z % p < p * 2 := by
      rcases (show z / p % 2 = 0 ∨ z / p % 2 = 1 by omega) with h | h <;> rw [h] <;> omega
    have hnn : 0 ≤ p * (z / p % 2) + z % p := by
      rcases (show z / p % 2 = 0 ∨ z / p % 2 = 1 by omega) with h | h <;> rw [h] <;> omega
    conv => lhs; rw [this]
    rw [Int.mul_add_emod_self_left]
    exact Int.emod_eq_of_lt hnn hlt
  rw [key]
  rw [Int.mul_add_ediv_left _ _ (Int.ne_of_gt hp), Int.ediv_eq_zero_of_lt b1 b2, Int.add_zero]
theorem signedZ_eq (z : Int) (k : Nat) : signedZ z ((k + 1 : Nat) : Int) = signed (k + 1) (z % 2 ^ (k + 1)).toNat := by
  unfold signedZ signed fieldZ
  have e1 : (((k + 1 : Nat) : Int) - 1).toNat = k := by omega
  have e2 : ((k + 1 : Nat) : Int).toNat = k + 1 := by omega
  rw [e1, e2, show (1 : Int).toNat = 1 from rfl, show (0 : Int).toNat = 0 from rfl, Int.pow_zero, Int.ediv_one, show (2 : Int) ^ 1 = 2 from rfl, div_mod_pow]
  have hr := toNat_emod z (k + 1)
  have hlt : (z % 2 ^ (k + 1)).toNat < 2 ^ (k + 1) := by
    have h := Int.emod_lt_of_pos z (pow_pos (k + 1))
    have h2 := pow_cast (k + 1)
    omega
  rw [← hr]
  generalize (z % 2 ^ (k + 1)).toNat = r at hlt
  rw [Nat.mod_eq_of_lt (show ((r : Int)).toNat < 2 ^ (k + 1) by rw [Int.toNat_natCast]; exact hlt), Int.toNat_natCast]
  rw [show ((k + 1) - 1 : Nat) = k from rfl]
  have e : (2 : Nat) ^ (k + 1) = 2 * 2 ^ k := by rw [Nat.pow_succ]; omega
  have hp : 0 < 2 ^ k := Nat.pow_pos (by decide)
  have hd : ((r : Int) / 2 ^ k = 1) = ¬ r < 2 ^ k := by
    rw [← pow_cast]
    have h2 : r / 2 ^ k < 2 := Nat.div_lt_of_lt_mul (by omega)
    by_cases h : r < 2 ^ k
    · have e0 : r / 2 ^ k = 0 := Nat.div_eq_of_lt h
      have : ((r : Int) / ((2 ^ k : Nat) : Int)) = 0 := by rw [← Int.natCast_ediv, e0]; rfl
      rw [this]; simp [h]
    · have h1 : 1 ≤ r / 2 ^ k := (Nat.le_div_iff_mul_le hp).mpr (by omega)
      have : ((r : Int) / ((2 ^ k : Nat) : Int)) = 1 := by rw [← Int.natCast_ediv, show r / 2 ^ k = 1 by omega]; rfl
      rw [this]; simp [h]
  by_cases h : r < 2 ^ k
  · rw [if_neg (by rw [hd]; exact fun z => z h), if_pos h]
  · rw [if_pos (by rw [hd]; exact h), if_neg h]
theorem signed_mod (k n : Nat) : signed k (n % 2 ^ k) = signed k n := by unfold signed; rw [Nat.mod_mod]
theorem signedZ_nat (n k : Nat) : signedZ (n : Int) ((k + 1 : Nat) : Int) = signed (k + 1) n := by
  rw [signedZ_eq]
  rw [← pow_cast, ← Int.natCast_emod, Int.toNat_natCast, signed_mod]
theorem signedZ64 (n : Nat) : signedZ (n : Int) 64 = s64 n := signedZ_nat n 63
theorem signedZ32 (n : Nat) : signedZ (n : Int) 32 = s32 n := signedZ_nat n 31
theorem s64_bounds {n : Nat} : -9223372036854775808 ≤ s64 n ∧ s64 n < 9223372036854775808 := by
  unfold s64 signed
  rw [show (2 : Nat) ^ 64 = 18446744073709551616 by decide, show (2 : Int) ^ 64 = 18446744073709551616 by decide, show (2 : Nat) ^ (64 - 1) = 9223372036854775808 by decide]
  split <;> omega
theorem s32_bounds {n : Nat} : -2147483648 ≤ s32 n ∧ s32 n < 2147483648 := by
  unfold s32 signed
  rw [show (2 : Nat) ^ 32 = 4294967296 by decide, show (2 : Int) ^ 32 = 4294967296 by decide, show (2 : Nat) ^ (32 - 1) = 2147483648 by decide]
  split <;> omega
theorem signedZ32_int (z : Int) : signedZ z 32 = signed 32 (wrap z) := by
  have h := signedZ_eq z 31
  rw [show ((31 + 1 : Nat) : Int) = 32 from rfl] at h
  rw [h, ← signed_mod 32 (wrap z)]
  have e : (wrap z) % 2 ^ 32 = (z % 2 ^ 32).toNat := by
    have h1 := wrap_cast z
    have h2 := toNat_emod z 32
    rw [show (2 : Int) ^ 32 = 4294967296 by decide] at h2 ⊢
    rw [show (2 : Nat) ^ 32 = 4294967296 by decide]
    omega
  rw [e]
theorem extendZ32_int (z : Int) : extendZ z 32 = ((wrap (signed 32 (wrap z)) : Nat) : Int) := by
  unfold extendZ; rw [signedZ32_int, wrapZ_wrap]
theorem extendZ32_nat (n : Nat) : extendZ (n : Int) 32 = ((wrap (s32 n) : Nat) : Int) := by
  unfold extendZ; rw [signedZ32, wrapZ_wrap]
theorem field6 (b : Nat) : fieldZ (b : Int) 0 6 = ((b % 64 : Nat) : Int) := by
  have h := fieldZ_nat b 0 6
  rw [Nat.pow_zero, Nat.div_one] at h
  exact h
theorem field5 (b : Nat) : fieldZ (b : Int) 0 5 = ((b % 32 : Nat) : Int) := by
  have h := fieldZ_nat b 0 5
  rw [Nat.pow_zero, Nat.div_one] at h
  exact h
theorem field32 (b : Nat) : fieldZ (b : Int) 0 32 = ((b % 2 ^ 32 : Nat) : Int) := by
  have h := fieldZ_nat b 0 32
  rw [Nat.pow_zero, Nat.div_one] at h
  exact h
theorem or_and_add : ∀ x y : Nat, (x ||| y) + (x &&& y) = x + y := by
  intro x
  induction x using Nat.strongRecOn with
  | _ x ih =>
    intro y
    by_cases h0 : x = 0
    · subst h0; simp
    · have ih' := ih (x / 2) (by omega) (y / 2)
      have e1 : (x ||| y) / 2 = x / 2 ||| y / 2 := Nat.or_div_two
      have e2 : (x &&& y) / 2 = x / 2 &&& y / 2 := Nat.and_div_two
      have m1 : (x ||| y) % 2 = 1 ↔ (x % 2 = 1 ∨ y % 2 = 1) := Nat.or_mod_two_eq_one
      have m2 : (x &&& y) % 2 = 1 ↔ (x % 2 = 1 ∧ y % 2 = 1) := Nat.and_mod_two_eq_one
      omega
theorem xor_and_or : ∀ x y : Nat, (x ^^^ y) + (x &&& y) = x ||| y := by
  intro x
  induction x using Nat.strongRecOn with
  | _ x ih =>
    intro y
    by_cases h0 : x = 0
    · subst h0; simp
    · have ih' := ih (x / 2) (by omega) (y / 2)
      have e1 : (x ||| y) / 2 = x / 2 ||| y / 2 := Nat.or_div_two
      have e2 : (x &&& y) / 2 = x / 2 &&& y / 2 := Nat.and_div_two
      have e3 : (x ^^^ y) / 2 = x / 2 ^^^ y / 2 := Nat.xor_div_two
      have m1 : (x ||| y) % 2 = 1 ↔ (x % 2 = 1 ∨ y % 2 = 1) := Nat.or_mod_two_eq_one
      have m2 : (x &&& y) % 2 = 1 ↔ (x % 2 = 1 ∧ y % 2 = 1) := Nat.and_mod_two_eq_one
      have m3 : (x ^^^ y) % 2 = 1 ↔ ¬ (x % 2 = 1 ↔ y % 2 = 1) := Nat.xor_mod_two_eq_one
      omega
def quotZ (a b : Int) : Int := if b = 0 then -1 else a.tdiv b
variable {a b : Nat}
theorem z_add : wrapZ ((a : Int) + b) = ((Alu.of .add a b : Nat) : Int) := by
  have h := wrapZ_nat (a + b); rw [Int.natCast_add] at h; exact h
theorem z_subtract : wrapZ ((a : Int) - b) = ((Alu.of .sub a b : Nat) : Int) := wrapZ_wrap _
theorem z_shift_left : wrapZ ((a : Int) * 2 ^ (fieldZ (b : Int) 0 6).toNat) = ((Alu.of .sll a b : Nat) : Int) := by
  rw [field6, Int.toNat_natCast, ← pow_cast, ← Int.natCast_mul, wrapZ_nat]; rfl
theorem z_shift_right : (a : Int) / 2 ^ (fieldZ (b : Int) 0 6).toNat = ((Alu.of .srl a b : Nat) : Int) := by
  rw [field6, Int.toNat_natCast, ← pow_cast, ← Int.natCast_ediv]; rfl
theorem z_shift_right_signed : wrapZ (signedZ (a : Int) 64 / 2 ^ (fieldZ (b : Int) 0 6).toNat) = ((Alu.of .sra a b : Nat) : Int) := by
  rw [field6, Int.toNat_natCast, signedZ64, wrapZ_wrap]; rfl
theorem z_is_less : (if (a : Int) < b then 1 else 0 : Int) = ((Alu.of .sltu a b : Nat) : Int) := by
  simp only [Alu.of]; by_cases h : a < b
  · rw [if_pos h, if_pos (by omega)]; rfl
  · rw [if_neg h, if_neg (by omega)]; rfl
theorem z_is_less_signed : (if signedZ (a : Int) 64 < signedZ (b : Int) 64 then 1 else 0 : Int) = ((Alu.of .slt a b : Nat) : Int) := by
  rw [signedZ64, signedZ64]; simp only [Alu.of]; by_cases h : s64 a < s64 b
  · rw [if_pos h, if_pos h]; rfl
  · rw [if_neg h, if_neg h]; rfl
theorem z_add_32 : extendZ ((a : Int) + b) 32 = ((Alu.of .addw a b : Nat) : Int) := by
  have h := extendZ32_nat (a + b); rw [Int.natCast_add] at h; exact h
theorem z_subtract_32 : extendZ ((a : Int) - b) 32 = ((Alu.of .subw a b : Nat) : Int) := extendZ32_int _
theorem z_shift_left_32 : extendZ ((a : Int) * 2 ^ (fieldZ (b : Int) 0 5).toNat) 32 = ((Alu.of .sllw a b : Nat) : Int) := by
  rw [field5, Int.toNat_natCast, ← pow_cast, ← Int.natCast_mul, extendZ32_nat]
  show _ = ((wrap (s32 (a % 2 ^ 32 * 2 ^ (b % 32))) : Nat) : Int)
  unfold s32
  rw [← signed_mod 32 (a * _), ← signed_mod 32 (a % 2 ^ 32 * _), Nat.mod_mul_mod]
theorem z_shift_right_32 : extendZ (fieldZ (a : Int) 0 32 / 2 ^ (fieldZ (b : Int) 0 5).toNat) 32 = ((Alu.of .srlw a b : Nat) : Int) := by
  rw [field5, field32, Int.toNat_natCast, ← pow_cast, ← Int.natCast_ediv, extendZ32_nat]; rfl
theorem z_shift_right_signed_32 : wrapZ (signedZ (a : Int) 32 / 2 ^ (fieldZ (b : Int) 0 5).toNat) = ((Alu.of .sraw a b : Nat) : Int) := by
  rw [field5, Int.toNat_natCast, signedZ32, wrapZ_wrap]; rfl
theorem z_multiply : wrapZ ((a : Int) * b) = ((Alu.of .mul a b : Nat) : Int) := by
  rw [← Int.natCast_mul, wrapZ_nat]; rfl
theorem z_multiply_high : ((a : Int) * b) / 2 ^ (64 : Int).toNat = ((Alu.of .mulhu a b : Nat) : Int) := by
  rw [show (64 : Int).toNat = 64 from rfl, ← pow_cast, ← Int.natCast_mul, ← Int.natCast_ediv]; rfl
theorem z_multiply_high_signed : wrapZ ((signedZ (a : Int) 64 * signedZ (b : Int) 64) / 2 ^ (64 : Int).toNat) = ((Alu.of .mulh a b : Nat) : Int) := by
  rw [signedZ64, signedZ64, wrapZ_wrap]; rfl
theorem z_multiply_high_mixed : wrapZ ((signedZ (a : Int) 64 * (b : Int)) / 2 ^ (64 : Int).toNat) = ((Alu.of .mulhsu a b : Nat) : Int) := by
  rw [signedZ64, wrapZ_wrap]; rfl
theorem z_multiply_32 : extendZ ((a : Int) * b) 32 = ((Alu.of .mulw a b : Nat) : Int) := by
  rw [← Int.natCast_mul, extendZ32_nat]; rfl
theorem quotZ_eq (x y : Int) : quotZ x y = quot x y := rfl
theorem left_eq (x y : Int) : x - y * quotZ x y = left_ x y := by
  unfold quotZ left_
  by_cases h : y = 0
  · rw [if_pos h, if_pos h, h]; omega
  · rw [if_neg h, if_neg h, Int.tmod_def]
theorem tdiv_nat (x y : Nat) : (x : Int).tdiv (y : Int) = ((x / y : Nat) : Int) := rfl
theorem tmod_nat (x y : Nat) : (x : Int).tmod (y : Int) = ((x % y : Nat) : Int) := rfl
theorem z_divide (ha : a < WORD) : wrapZ (quotZ (a : Int) (b : Int)) = ((Alu.of .divu a b : Nat) : Int) := by
  rw [WORD_eq] at ha
  unfold quotZ
  show _ = ((if b = 0 then WORD - 1 else a / b : Nat) : Int)
  by_cases h : b = 0
  · rw [if_pos (by omega), if_pos h]; decide
  · rw [if_neg (by omega), if_neg h, tdiv_nat, wrapZ_nat, WORD_eq]
    have := Nat.div_le_self a b
    rw [Nat.mod_eq_of_lt (by omega)]
theorem z_divide_signed : wrapZ (quotZ (signedZ (a : Int) 64) (signedZ (b : Int) 64)) = ((Alu.of .div a b : Nat) : Int) := by
  rw [signedZ64, signedZ64, wrapZ_wrap]; rfl
theorem z_remainder_signed : wrapZ (signedZ (a : Int) 64 - signedZ (b : Int) 64 * quotZ (signedZ (a : Int) 64) (signedZ (b : Int) 64)) = ((Alu.of .rem a b : Nat) : Int) := by
  rw [left_eq, signedZ64, signedZ64, wrapZ_wrap]; rfl
theorem z_remainder : (a : Int) - (b : Int) * quotZ (a : Int) (b : Int) = ((Alu.of .remu a b : Nat) : Int) := by
  rw [left_eq]
  unfold left_
  show _ = ((if b = 0 then a else a % b : Nat) : Int)
  by_cases h : b = 0
  · rw [if_pos (by omega), if_pos h]
  · rw [if_neg (by omega), if_neg h, tmod_nat]
theorem z_divide_32 : extendZ (quotZ (fieldZ (a : Int) 0 32) (fieldZ (b : Int) 0 32)) 32 = ((Alu.of .divuw a b : Nat) : Int) := by
  rw [field32, field32]
  unfold quotZ
  show _ = ((wrap (s32 (if b % 2 ^ 32 = 0 then 2 ^ 32 - 1 else a % 2 ^ 32 / (b % 2 ^ 32))) : Nat) : Int)
  by_cases h : b % 2 ^ 32 = 0
  · rw [if_pos (by omega), if_pos h]; decide
  · rw [if_neg (by omega), if_neg h, tdiv_nat, extendZ32_nat]
theorem z_divide_signed_32 : extendZ (quotZ (signedZ (a : Int) 32) (signedZ (b : Int) 32)) 32 = ((Alu.of .divw a b : Nat) : Int) := by
  rw [signedZ32, signedZ32, extendZ32_int]; rfl
theorem z_remainder_32 : extendZ (fieldZ (a : Int) 0 32 - fieldZ (b : Int) 0 32 * quotZ (fieldZ (a : Int) 0 32) (fieldZ (b : Int) 0 32)) 32 = ((Alu.of .remuw a b : Nat) : Int) := by
  rw [left_eq, field32, field32]
  unfold left_
  show _ = ((wrap (s32 (if b % 2 ^ 32 = 0 then a % 2 ^ 32 else a % 2 ^ 32 % (b % 2 ^ 32))) : Nat) : Int)
  by_cases h : b % 2 ^ 32 = 0
  · rw [if_pos (by omega), if_pos h, extendZ32_nat]
  · rw [if_neg (by omega), if_neg h, tmod_nat, extendZ32_nat]
theorem z_remainder_signed_32 : extendZ (signedZ (a : Int) 32 - signedZ (b : Int) 32 * quotZ (signedZ (a : Int) 32) (signedZ (b : Int) 32)) 32 = ((Alu.of .remw a b : Nat) : Int) := by
  rw [left_eq, signedZ32, signedZ32, extendZ32_int]; rfl
end Sp8
end
section
namespace Sp8
open Sg08
def gatN (w : Nat) (ps : List (Nat × Nat × Nat)) : Nat := ps.foldl (fun acc p => acc ||| (w / 2 ^ p.1 % 2 ^ p.2.1 * 2 ^ p.2.2)) 0
theorem or_add {x y k : Nat} (h : x < 2 ^ k) : x ||| y * 2 ^ k = x + y * 2 ^ k := by
  have e := Nat.two_pow_add_eq_or_of_lt h y
  rw [Nat.mul_comm] at e
  rw [Nat.or_comm, ← e, Nat.add_comm]
theorem md_lt (x k : Nat) : x % 2 ^ k < 2 ^ k := Nat.mod_lt _ (Nat.pow_pos (by decide))
theorem extendZ_nat (n k : Nat) : extendZ (n : Int) ((k + 1 : Nat) : Int) = ((wrap (signed (k + 1) n) : Nat) : Int) := by
  unfold extendZ; rw [signedZ_nat, wrapZ_wrap]
section
variable (w : Nat)
theorem g_immI : gatN w [(20, 12, 0)] = bits w 31 20 := by
  simp [gatN, bits]
theorem g_immS : gatN w [(7, 5, 0), (25, 7, 5)] = bits w 31 25 * 32 + bits w 11 7 := by
  simp only [gatN, List.foldl_cons, List.foldl_nil, Nat.zero_or, Nat.pow_zero, Nat.mul_one, bits]
  rw [or_add (k := 5) (md_lt _ 5)]
  omega
theorem g_immB : gatN w [(8, 4, 1), (25, 6, 5), (7, 1, 11), (31, 1, 12)] = at_ w 31 12 + at_ w 7 11 + bits w 30 25 * 32 + bits w 11 8 * 2 := by
  simp only [gatN, List.foldl_cons, List.foldl_nil, Nat.zero_or, bits, at_]
  have h1 := md_lt (w / 2 ^ 8) 4
  have h2 := md_lt (w / 2 ^ 25) 6
  have h3 := md_lt (w / 2 ^ 7) 1
  rw [or_add (k := 5) (by omega), or_add (k := 11) (by omega), or_add (k := 12) (by omega)]
  omega
theorem g_immU : gatN w [(12, 20, 12)] = bits w 31 12 * 4096 := by
  simp [gatN, bits]
theorem g_immJ : gatN w [(21, 10, 1), (20, 1, 11), (12, 8, 12), (31, 1, 20)] = at_ w 31 20 + bits w 19 12 * 4096 + at_ w 20 11 + bits w 30 21 * 2 := by
  simp only [gatN, List.foldl_cons, List.foldl_nil, Nat.zero_or, bits, at_]
  have h1 := md_lt (w / 2 ^ 21) 10
  have h2 := md_lt (w / 2 ^ 20) 1
  have h3 := md_lt (w / 2 ^ 12) 8
  rw [or_add (k := 11) (by omega), or_add (k := 12) (by omega), or_add (k := 20) (by omega)]
  omega
theorem d_sa : ∀ a < 2, ∀ b < 2, ∀ c < 16, ∀ d < 4, (((0 ||| a * 2 ^ 3) ||| b * 2 ^ 2) ||| c * 2 ^ 6) ||| d * 2 ^ 4 = d * 16 + c * 64 + b * 4 + a * 8 := by decide +kernel
theorem g_sa : gatN w [(5, 1, 3), (6, 1, 2), (7, 4, 6), (11, 2, 4)] = bits w 12 11 * 16 + bits w 10 7 * 64 + at_ w 6 2 + at_ w 5 3 :=
  d_sa _ (md_lt _ 1) _ (md_lt _ 1) _ (md_lt _ 4) _ (md_lt _ 2)
theorem d_sm : ∀ a < 2, ∀ b < 4, ∀ c < 2, ∀ d < 2, ∀ e < 2, ((((0 ||| a * 2 ^ 5) ||| b * 2 ^ 7) ||| c * 2 ^ 6) ||| d * 2 ^ 4) ||| e * 2 ^ 9 = e * 2 ^ 9 + d * 2 ^ 4 + c * 2 ^ 6 + b * 128 + a * 2 ^ 5 := by decide +kernel
theorem g_sm : gatN w [(2, 1, 5), (3, 2, 7), (5, 1, 6), (6, 1, 4), (12, 1, 9)] = at_ w 12 9 + at_ w 6 4 + at_ w 5 6 + bits w 4 3 * 128 + at_ w 2 5 :=
  d_sm _ (md_lt _ 1) _ (md_lt _ 2) _ (md_lt _ 1) _ (md_lt _ 1) _ (md_lt _ 1)
theorem d_p : ∀ a < 32, ∀ b < 2, (0 ||| a * 2 ^ 0) ||| b * 2 ^ 5 = b * 2 ^ 5 + a := by decide +kernel
theorem g_p : gatN w [(2, 5, 0), (12, 1, 5)] = imm6 w := d_p _ (md_lt _ 5) _ (md_lt _ 1)
theorem d_u : ∀ a < 32, ∀ b < 2, (0 ||| a * 2 ^ 12) ||| b * 2 ^ 17 = (b * 2 ^ 5 + a) * 4096 := by decide +kernel
theorem g_u : gatN w [(2, 5, 12), (12, 1, 17)] = imm6 w * 4096 := d_u _ (md_lt _ 5) _ (md_lt _ 1)
theorem d_w : ∀ a < 2, ∀ b < 2, ∀ c < 8, ((0 ||| a * 2 ^ 6) ||| b * 2 ^ 2) ||| c * 2 ^ 3 = c * 8 + b * 2 ^ 2 + a * 2 ^ 6 := by decide +kernel
theorem g_w : gatN w [(5, 1, 6), (6, 1, 2), (10, 3, 3)] = immW w := d_w _ (md_lt _ 1) _ (md_lt _ 1) _ (md_lt _ 3)
theorem d_d : ∀ a < 4, ∀ b < 8, (0 ||| a * 2 ^ 6) ||| b * 2 ^ 3 = b * 8 + a * 64 := by decide +kernel
theorem g_d : gatN w [(5, 2, 6), (10, 3, 3)] = immD w := d_d _ (md_lt _ 2) _ (md_lt _ 3)
theorem d_slw : ∀ a < 4, ∀ b < 8, ∀ c < 2, ((0 ||| a * 2 ^ 6) ||| b * 2 ^ 2) ||| c * 2 ^ 5 = c * 2 ^ 5 + b * 4 + a * 64 := by decide +kernel
theorem g_slw : gatN w [(2, 2, 6), (4, 3, 2), (12, 1, 5)] = at_ w 12 5 + bits w 6 4 * 4 + bits w 3 2 * 64 := d_slw _ (md_lt _ 2) _ (md_lt _ 3) _ (md_lt _ 1)
theorem d_sld : ∀ a < 8, ∀ b < 4, ∀ c < 2, ((0 ||| a * 2 ^ 6) ||| b * 2 ^ 3) ||| c * 2 ^ 5 = c * 2 ^ 5 + b * 8 + a * 64 := by decide +kernel
theorem g_sld : gatN w [(2, 3, 6), (5, 2, 3), (12, 1, 5)] = at_ w 12 5 + bits w 6 5 * 8 + bits w 4 2 * 64 := d_sld _ (md_lt _ 3) _ (md_lt _ 2) _ (md_lt _ 1)
theorem d_ssw : ∀ a < 4, ∀ b < 16, (0 ||| a * 2 ^ 6) ||| b * 2 ^ 2 = b * 4 + a * 64 := by decide +kernel
theorem g_ssw : gatN w [(7, 2, 6), (9, 4, 2)] = bits w 12 9 * 4 + bits w 8 7 * 64 := d_ssw _ (md_lt _ 2) _ (md_lt _ 4)
theorem d_ssd : ∀ a < 8, ∀ b < 8, (0 ||| a * 2 ^ 6) ||| b * 2 ^ 3 = b * 8 + a * 64 := by decide +kernel
theorem g_ssd : gatN w [(7, 3, 6), (10, 3, 3)] = bits w 12 10 * 8 + bits w 9 7 * 64 := d_ssd _ (md_lt _ 3) _ (md_lt _ 3)
set_option synthInstance.maxHeartbeats 0 in
set_option synthInstance.maxSize 4000 in
theorem d_cj : ∀ a < 2, ∀ b < 8, ∀ c < 2, ∀ d < 2, ∀ e < 2, ∀ f < 4, ∀ g < 2, ∀ h < 2,
    (((((((0 ||| a * 2 ^ 5) ||| b * 2 ^ 1) ||| c * 2 ^ 7) ||| d * 2 ^ 6) ||| e * 2 ^ 10) ||| f * 2 ^ 8) ||| g * 2 ^ 4) ||| h * 2 ^ 11
    = h * 2 ^ 11 + g * 2 ^ 4 + f * 256 + e * 2 ^ 10 + d * 2 ^ 6 + c * 2 ^ 7 + b * 2 + a * 2 ^ 5 := by decide +kernel
theorem g_cj : gatN w [(2, 1, 5), (3, 3, 1), (6, 1, 7), (7, 1, 6), (8, 1, 10), (9, 2, 8), (11, 1, 4), (12, 1, 11)] =
    at_ w 12 11 + at_ w 11 4 + bits w 10 9 * 256 + at_ w 8 10 + at_ w 7 6 + at_ w 6 7 + bits w 5 3 * 2 + at_ w 2 5 :=
  d_cj _ (md_lt _ 1) _ (md_lt _ 3) _ (md_lt _ 1) _ (md_lt _ 1) _ (md_lt _ 1) _ (md_lt _ 2) _ (md_lt _ 1) _ (md_lt _ 1)
theorem d_cb : ∀ a < 2, ∀ b < 4, ∀ c < 4, ∀ d < 4, ∀ e < 2, ((((0 ||| a * 2 ^ 5) ||| b * 2 ^ 1) ||| c * 2 ^ 6) ||| d * 2 ^ 3) ||| e * 2 ^ 8 = e * 2 ^ 8 + d * 8 + c * 64 + b * 2 + a * 2 ^ 5 := by decide +kernel
theorem g_cb : gatN w [(2, 1, 5), (3, 2, 1), (5, 2, 6), (10, 2, 3), (12, 1, 8)] = at_ w 12 8 + bits w 11 10 * 8 + bits w 6 5 * 64 + bits w 4 3 * 2 + at_ w 2 5 :=
  d_cb _ (md_lt _ 1) _ (md_lt _ 2) _ (md_lt _ 2) _ (md_lt _ 2) _ (md_lt _ 1)
theorem bits_lt (hi lo : Nat) : bits w hi lo < 2 ^ (hi + 1 - lo) := md_lt _ _
end
section
variable {w : Nat}
theorem long_37 (h : bits w 6 0 = 0x37) : long w = some (.lui (bits w 11 7) (immU w)) := by unfold long; rw [h]; rfl
theorem long_17 (h : bits w 6 0 = 0x17) : long w = some (.auipc (bits w 11 7) (immU w)) := by unfold long; rw [h]; rfl
theorem long_6F (h : bits w 6 0 = 0x6F) : long w = some (.jal (bits w 11 7) (immJ w)) := by unfold long; rw [h]; rfl
theorem long_67 (h : bits w 6 0 = 0x67) : long w = if bits w 14 12 = 0 then some (.jalr (bits w 11 7) (bits w 19 15) (immI w)) else none := by unfold long; rw [h]; rfl
theorem long_63 (h : bits w 6 0 = 0x63) : long w = if bits w 14 12 = 2 ∨ bits w 14 12 = 3 then none else some (.branch (bits w 14 12) (bits w 19 15) (bits w 24 20) (immB w)) := by unfold long; rw [h]; rfl
theorem long_03 (h : bits w 6 0 = 0x03) : long w = if bits w 14 12 = 7 then none else some (.load (bits w 14 12) (bits w 11 7) (bits w 19 15) (immI w)) := by unfold long; rw [h]; rfl
theorem long_23 (h : bits w 6 0 = 0x23) : long w = if bits w 14 12 < 4 then some (.store (bits w 14 12) (bits w 19 15) (bits w 24 20) (immS w)) else none := by unfold long; rw [h]; rfl
theorem long_33 (h : bits w 6 0 = 0x33) : long w = (opOf (bits w 14 12) (bits w 31 25)).map fun o => .reg o (bits w 11 7) (bits w 19 15) (bits w 24 20) := by unfold long; rw [h]; rfl
theorem long_3B (h : bits w 6 0 = 0x3B) : long w = (opwOf (bits w 14 12) (bits w 31 25)).map fun o => .reg o (bits w 11 7) (bits w 19 15) (bits w 24 20) := by unfold long; rw [h]; rfl
theorem long_0F (h : bits w 6 0 = 0x0F) : long w = if bits w 14 12 = 0 then some .fence else none := by unfold long; rw [h]; rfl
theorem long_73 (h : bits w 6 0 = 0x73) : long w = if w = 0x00000073 then some .ecall else if w = 0x00100073 then some .ebreak else none := by unfold long; rw [h]; rfl
def immOf : Nat → Option Alu
  | 0 => some .add
  | 2 => some .slt
  | 3 => some .sltu
  | 4 => some .xor
  | 6 => some .or
  | 7 => some .and
  | _ => none
def shiftOf : Nat → Nat → Option Alu
  | 0, 1 => some .sll
  | 0, 5 => some .srl
  | 16, 5 => some .sra
  | _, _ => none
def shiftwOf : Nat → Nat → Option Alu
  | 0, 1 => some .sllw
  | 0, 5 => some .srlw
  | 32, 5 => some .sraw
  | _, _ => none
theorem f3_lt : bits w 14 12 < 8 := bits_lt w 14 12
theorem f3_cases : bits w 14 12 = 0 ∨ bits w 14 12 = 1 ∨ bits w 14 12 = 2 ∨ bits w 14 12 = 3 ∨ bits w 14 12 = 4 ∨ bits w 14 12 = 5 ∨ bits w 14 12 = 6 ∨ bits w 14 12 = 7 := by
  have := f3_lt (w := w); omega
theorem long_13i {o : Alu} (h : bits w 6 0 = 0x13) (e : immOf (bits w 14 12) = some o) : long w = some (.imm o (bits w 11 7) (bits w 19 15) (immI w)) := by
  unfold long; rw [h]; dsimp only
  rcases f3_cases (w := w) with f | f | f | f | f | f | f | f <;> rw [f] at e ⊢ <;> first | (cases e; done) | (cases e; rfl)
theorem long_13s (h : bits w 6 0 = 0x13) (e : immOf (bits w 14 12) = none) : long w = (shiftOf (bits w 31 26) (bits w 14 12)).map fun o => .imm o (bits w 11 7) (bits w 19 15) ((bits w 25 20 : Nat) : Int) := by
  unfold long; rw [h]; dsimp only
  rcases f3_cases (w := w) with f | f | f | f | f | f | f | f <;> rw [f] at e ⊢ <;> try (cases e; done)
  · show (if bits w 31 26 = 0 then _ else _) = _
    by_cases h0 : bits w 31 26 = 0
    · rw [if_pos h0, h0]; rfl
    · rw [if_neg h0]
      have : shiftOf (bits w 31 26) 1 = none := by unfold shiftOf; split <;> simp_all
      rw [this]; rfl
  · show (if bits w 31 26 = 0 then _ else if bits w 31 26 = 16 then _ else _) = _
    by_cases h0 : bits w 31 26 = 0
    · rw [if_pos h0, h0]; rfl
    · rw [if_neg h0]
      by_cases h1 : bits w 31 26 = 16
      · rw [if_pos h1, h1]; rfl
      · rw [if_neg h1]
        have : shiftOf (bits w 31 26) 5 = none := by unfold shiftOf; split <;> simp_all
        rw [this]; rfl
theorem long_1B0 (h : bits w 6 0 = 0x1B) (e : bits w 14 12 = 0) : long w = some (.imm .addw (bits w 11 7) (bits w 19 15) (immI w)) := by
  unfold long; rw [h]; dsimp only; rw [e]; rfl
theorem long_1Bs (h : bits w 6 0 = 0x1B) (e : ¬ bits w 14 12 = 0) : long w = (shiftwOf (bits w 31 25) (bits w 14 12)).map fun o => .imm o (bits w 11 7) (bits w 19 15) ((bits w 24 20 : Nat) : Int) := by
  unfold long; rw [h]; dsimp only
  have no : ∀ k, k ≠ 1 → k ≠ 5 → shiftwOf (bits w 31 25) k = none := fun k h1 h5 => by unfold shiftwOf; split <;> simp_all
  rcases f3_cases (w := w) with f | f | f | f | f | f | f | f
  · exact absurd f e
  · rw [f]
    show (if bits w 31 25 = 0 then _ else _) = _
    by_cases h0 : bits w 31 25 = 0
    · rw [if_pos h0, h0]; rfl
    · rw [if_neg h0]
      have : shiftwOf (bits w 31 25) 1 = none := by unfold shiftwOf; split <;> simp_all
      rw [this]; rfl
  · rw [f, no 2 (by decide) (by decide)]; rfl
  · rw [f, no 3 (by decide) (by decide)]; rfl
  · rw [f, no 4 (by decide) (by decide)]; rfl
  · rw [f]
    show (if bits w 31 25 = 0 then _ else if bits w 31 25 = 32 then _ else _) = _
    by_cases h0 : bits w 31 25 = 0
    · rw [if_pos h0, h0]; rfl
    · rw [if_neg h0]
      by_cases h1 : bits w 31 25 = 32
      · rw [if_pos h1, h1]; rfl
      · rw [if_neg h1]
        have : shiftwOf (bits w 31 25) 5 = none := by unfold shiftwOf; split <;> simp_all
        rw [this]; rfl
  · rw [f, no 6 (by decide) (by decide)]; rfl
  · rw [f, no 7 (by decide) (by decide)]; rfl
theorem long_no (h : ∀ k ∈ [0x03, 0x0f, 0x13, 0x17, 0x1b, 0x23, 0x33, 0x37, 0x3b, 0x63, 0x67, 0x6f, 0x73], bits w 6 0 ≠ k) : long w = none := by
  unfold long
  simp only
  split <;> first | rfl | (rename_i q; exact absurd q (h _ (by decide)))
theorem wrap_nat {n : Nat} (h : n < 18446744073709551616) : wrap ((n : Nat) : Int) = n := by
  have := wrap_cast (n : Int); omega
end
section
variable {w : Nat}
theorem short_00 (h1 : bits w 1 0 = 0) (h2 : bits w 15 13 = 0) : short w = if bits w 12 11 * 16 + bits w 10 7 * 64 + at_ w 6 2 + at_ w 5 3 = 0 then none else some (.imm .add (near w 2) 2 ((bits w 12 11 * 16 + bits w 10 7 * 64 + at_ w 6 2 + at_ w 5 3 : Nat) : Int)) := by unfold short; rw [h1, h2]; rfl
theorem short_02 (h1 : bits w 1 0 = 0) (h2 : bits w 15 13 = 2) : short w = some (.load 2 (near w 2) (near w 7) (immW w : Nat)) := by unfold short; rw [h1, h2]; rfl
theorem short_03 (h1 : bits w 1 0 = 0) (h2 : bits w 15 13 = 3) : short w = some (.load 3 (near w 2) (near w 7) (immD w : Nat)) := by unfold short; rw [h1, h2]; rfl
theorem short_06 (h1 : bits w 1 0 = 0) (h2 : bits w 15 13 = 6) : short w = some (.store 2 (near w 7) (near w 2) (immW w : Nat)) := by unfold short; rw [h1, h2]; rfl
theorem short_07 (h1 : bits w 1 0 = 0) (h2 : bits w 15 13 = 7) : short w = some (.store 3 (near w 7) (near w 2) (immD w : Nat)) := by unfold short; rw [h1, h2]; rfl
theorem short_10 (h1 : bits w 1 0 = 1) (h2 : bits w 15 13 = 0) : short w = some (.imm .add (bits w 11 7) (bits w 11 7) (signed 6 (imm6 w))) := by unfold short; rw [h1, h2]; rfl
theorem short_11 (h1 : bits w 1 0 = 1) (h2 : bits w 15 13 = 1) : short w = if bits w 11 7 = 0 then none else some (.imm .addw (bits w 11 7) (bits w 11 7) (signed 6 (imm6 w))) := by unfold short; rw [h1, h2]; rfl
theorem short_12 (h1 : bits w 1 0 = 1) (h2 : bits w 15 13 = 2) : short w = some (.imm .add (bits w 11 7) 0 (signed 6 (imm6 w))) := by unfold short; rw [h1, h2]; rfl
theorem short_13 (h1 : bits w 1 0 = 1) (h2 : bits w 15 13 = 3) : short w = if bits w 11 7 = 2 then (if signed 10 (at_ w 12 9 + at_ w 6 4 + at_ w 5 6 + bits w 4 3 * 128 + at_ w 2 5) = 0 then none else some (.imm .add 2 2 (signed 10 (at_ w 12 9 + at_ w 6 4 + at_ w 5 6 + bits w 4 3 * 128 + at_ w 2 5)))) else if imm6 w = 0 then none else some (.lui (bits w 11 7) (signed 18 (imm6 w * 4096))) := by unfold short; rw [h1, h2]; rfl
theorem short_15 (h1 : bits w 1 0 = 1) (h2 : bits w 15 13 = 5) : short w = some (.jal 0 (immCJ w)) := by unfold short; rw [h1, h2]; rfl
theorem short_16 (h1 : bits w 1 0 = 1) (h2 : bits w 15 13 = 6) : short w = some (.branch 0 (near w 7) 0 (immCB w)) := by unfold short; rw [h1, h2]; rfl
theorem short_17 (h1 : bits w 1 0 = 1) (h2 : bits w 15 13 = 7) : short w = some (.branch 1 (near w 7) 0 (immCB w)) := by unfold short; rw [h1, h2]; rfl
theorem short_20 (h1 : bits w 1 0 = 2) (h2 : bits w 15 13 = 0) : short w = some (.imm .sll (bits w 11 7) (bits w 11 7) (imm6 w : Nat)) := by unfold short; rw [h1, h2]; rfl
theorem short_22 (h1 : bits w 1 0 = 2) (h2 : bits w 15 13 = 2) : short w = if bits w 11 7 = 0 then none else some (.load 2 (bits w 11 7) 2 ((at_ w 12 5 + bits w 6 4 * 4 + bits w 3 2 * 64 : Nat) : Int)) := by unfold short; rw [h1, h2]; rfl
theorem short_23 (h1 : bits w 1 0 = 2) (h2 : bits w 15 13 = 3) : short w = if bits w 11 7 = 0 then none else some (.load 3 (bits w 11 7) 2 ((at_ w 12 5 + bits w 6 5 * 8 + bits w 4 2 * 64 : Nat) : Int)) := by unfold short; rw [h1, h2]; rfl
theorem short_24 (h1 : bits w 1 0 = 2) (h2 : bits w 15 13 = 4) : short w = if bits w 12 12 = 0 then (if bits w 6 2 = 0 then (if bits w 11 7 = 0 then none else some (.jalr 0 (bits w 11 7) 0)) else some (.reg .add (bits w 11 7) 0 (bits w 6 2))) else if bits w 6 2 = 0 then (if bits w 11 7 = 0 then some .ebreak else some (.jalr 1 (bits w 11 7) 0)) else some (.reg .add (bits w 11 7) (bits w 11 7) (bits w 6 2)) := by unfold short; rw [h1, h2]; rfl
theorem short_26 (h1 : bits w 1 0 = 2) (h2 : bits w 15 13 = 6) : short w = some (.store 2 2 (bits w 6 2) ((bits w 12 9 * 4 + bits w 8 7 * 64 : Nat) : Int)) := by unfold short; rw [h1, h2]; rfl
theorem short_27 (h1 : bits w 1 0 = 2) (h2 : bits w 15 13 = 7) : short w = some (.store 3 2 (bits w 6 2) ((bits w 12 10 * 8 + bits w 9 7 * 64 : Nat) : Int)) := by unfold short; rw [h1, h2]; rfl
def smallOf : Nat → Nat → Option Alu
  | 0, 0 => some .sub
  | 0, 1 => some .xor
  | 0, 2 => some .or
  | 0, 3 => some .and
  | 1, 0 => some .subw
  | 1, 1 => some .addw
  | _, _ => none
theorem short_14_0 (h1 : bits w 1 0 = 1) (h2 : bits w 15 13 = 4) (h3 : bits w 11 10 = 0) : short w = some (.imm .srl (near w 7) (near w 7) (imm6 w : Nat)) := by unfold short; rw [h1, h2, h3]; rfl
theorem short_14_1 (h1 : bits w 1 0 = 1) (h2 : bits w 15 13 = 4) (h3 : bits w 11 10 = 1) : short w = some (.imm .sra (near w 7) (near w 7) (imm6 w : Nat)) := by unfold short; rw [h1, h2, h3]; rfl
theorem short_14_2 (h1 : bits w 1 0 = 1) (h2 : bits w 15 13 = 4) (h3 : bits w 11 10 = 2) : short w = some (.imm .and (near w 7) (near w 7) (signed 6 (imm6 w))) := by unfold short; rw [h1, h2, h3]; rfl
theorem short_14_3 (h1 : bits w 1 0 = 1) (h2 : bits w 15 13 = 4) (h3 : bits w 11 10 = 3) : short w = (smallOf (bits w 12 12) (bits w 6 5)).map fun o => .reg o (near w 7) (near w 7) (near w 2) := by
  unfold short; rw [h1, h2, h3]; dsimp only
  have b1 : bits w 12 12 < 2 := bits_lt w 12 12
  have b2 : bits w 6 5 < 4 := bits_lt w 6 5
  rcases (show bits w 12 12 = 0 ∨ bits w 12 12 = 1 by omega) with e | e <;> rcases (show bits w 6 5 = 0 ∨ bits w 6 5 = 1 ∨ bits w 6 5 = 2 ∨ bits w 6 5 = 3 by omega) with f | f | f | f <;> rw [e, f] <;> rfl
theorem up_zero : ∀ x < 64, wrap (signed 18 (x * 4096)) = 0 ↔ x = 0 := by decide +kernel
theorem mv_zero : ∀ x < 1024, wrap (signed 10 x) = 0 ↔ signed 10 x = 0 := by decide +kernel
theorem imm6_lt : imm6 w < 64 := by
  unfold imm6 at_
  have := bits_lt w 6 2
  omega
theorem mv_lt : at_ w 12 9 + at_ w 6 4 + at_ w 5 6 + bits w 4 3 * 128 + at_ w 2 5 < 1024 := by
  unfold at_
  have := bits_lt w 4 3
  omega
end
end Sp8
end
section
namespace Sp8
open PySem PySem.Spec PyProof.Rows L2
def top (i : Nat) : Stmt := PySem.Challenge.pw_smallcore_s01_answers.main.body.getD i (.Pass ⟨0, 0, 0, 0⟩)
structure Ok (P : Program) (w : World) (K : PySem.W.Frag) (mg : Str → Option Value) (base : Heap) (k : Nat) (f : Addr) (ps : List Str) (sp : Sp) : Prop where
  fn : ∃ fd, FnOk P w K mg base CX0 k f fd ps sp ∧ Binds K fd ps []
  kp : PySem.W.keepIn K (.ref f) = true
theorem Ok.imp {P : Program} {w : World} {K : PySem.W.Frag} {mg : Str → Option Value} {base : Heap} {k : Nat} {f : Addr} {ps : List Str} {sp sp' : Sp} (G : Ok P w K mg base k f ps sp) (h : ∀ vs H Q E, sp' vs H Q E → sp vs H Q E) : Ok P w K mg base k f ps sp' := by
  obtain ⟨⟨fd, F, b⟩, kp⟩ := G
  exact ⟨⟨fd, F.imp h, b⟩, kp⟩
structure Def (K : PySem.W.Frag) (x qual : Str) (st : Stmt) (ps : List Str) (f : Addr) : Prop where
  fn : ∃ fd, Fun K x qual st f fd ∧ Binds K fd ps []
section
variable {P : Program} {w : World} {K : PySem.W.Frag} {mg : Str → Option Value} {base : Heap}
theorem Def.ok {x qual : Str} {st : Stmt} {f : Addr} {N ps : List Str} {k : Nat} {sp : Sp} (D : Def K x qual st ps f) (S : FnScope N ps (defScope st)) (len : ∀ vs H Q E, sp vs H Q E → vs.length = ps.length)
    (hbody : ∀ (cdv : Value) (A : Around) (outer : List Env) (s : Shared) (H : Hp) (vs : List V) (Q : VK) (E : XK), Room k (A.deeper (envOfC qual (defScope st) s.heap.objs.size f cdv)) → sp vs H Q E →
      ∃ t, PSs (cxOf CX0 P w K mg base N qual (defScope st) f cdv A outer s H E).nox (defBody st) t ∧ t { nx := fun _ H' => Q .non H', rt := Q } (start N vs) H) : Ok P w K mg base (k + 1) f ps sp := by
  obtain ⟨fd, F, b⟩ := D.fn
  exact ⟨⟨fd, F.ok S len hbody, b⟩, F.kp⟩
end
section
variable {X : Cx} {k j : Nat} {f C : Addr} {ps : List Str} {sp : Sp} {x m : Str} {p pos apos : Pos} {e o : Expr} {es : List Expr} {ta : TE} {t : TA}
theorem pe_g (hm : X.mg x = some (.ref f)) (G : Ok X.prog X.w X.K X.mg X.base k f ps sp) (hr : Room j X.A) (ha : PA X (e :: es) t) (hk : k ≤ j := by decide) (hg : Gl X x := by rfl)
    (hdb : (x == ("__debug__" : Str)) = false := by decide) (he : starEach (e :: es) X.env = (false, eval e X.env) :: starEach es X.env := by rfl) (hpl : (backTo pos (starEach es X.env)).any (·.1) = false := by rfl) :
    PE X (.Call (.Name x p) (e :: es) [] pos) (tCall sp [] E0 t) := by
  obtain ⟨fd, F, b⟩ := G.fn
  exact pe_call F (hr.mono hk) hg hm G.kp b .nil pass0 ha hdb he hpl
theorem pe_g0 (hm : X.mg x = some (.ref f)) (G : Ok X.prog X.w X.K X.mg X.base k f ps sp) (hr : Room j X.A) (hk : k ≤ j := by decide) (hg : Gl X x := by rfl)
    (hdb : (x == ("__debug__" : Str)) = false := by decide) : PE X (.Call (.Name x p) [] [] pos) (tCall sp [] E0 tNil) := by
  obtain ⟨fd, F, b⟩ := G.fn
  exact pe_call0 F (hr.mono hk) hg hm G.kp b .nil pass0 hdb
def tCallE (P : Program) (w : World) (K : PySem.W.Frag) (mg : Str → Option Value) (base : Heap) (j : Nat) (te : TE) (t : TA) : TE := fun σ H Q => te σ H fun v H1 => ∃ k f ps sp, v = .ref f ∧ k ≤ j ∧ Ok P w K mg base k f ps sp ∧ t σ H1 fun vs H2 => sp vs H2 Q E0
theorem arm_call_sub (a b : Expr) (p : Pos) (args : List Expr) (keywords : List Keyword) (pos : Pos) (env : Env) : eval (.Call (.Subscript a b p) args keywords pos) env = (do
    callWith pos (← eval (.Subscript a b p) env) [] (backTo pos (starEach args env)) (backToKw pos (keywordEach keywords env))) := rfl
theorem pe_callE {a b : Expr} {te : TE} (hf : PE X (.Subscript a b p) te) (hr : Room j X.A) (ha : PA X (e :: es) t)
    (he : starEach (e :: es) X.env = (false, eval e X.env) :: starEach es X.env := by rfl) (hpl : (backTo pos (starEach es X.env)).any (·.1) = false := by rfl) :
    PE X (.Call (.Subscript a b p) (e :: es) [] pos) (tCallE X.prog X.w X.K X.mg X.base j te t) := by
  intro pins s σ H Q I h
  rw [arm_call_sub]
  refine wpAny_bind (thn (hf pins s σ H _ I h) fun u s1 ⟨v, H1, I1, rv, k, f, ps, sp, ev, hk, G, q⟩ => ?_)
  subst ev
  obtain rfl : u = Value.ref f := rv
  obtain ⟨fd, F, b⟩ := G.fn
  refine PySem.W.callWith_K (h₀ := X.base) I.ok.mod.kin G.kp (thn (ha pos pins s1 σ H1 _ I1 q) fun us s2 ⟨vs, H2, I2, r, q2⟩ => ⟨I2.kIn, ?_⟩) he hpl
  exact run_fn (dvs := []) F (hr.mono hk) b .nil pass0 I2 r (by rw [List.append_nil]; exact q2)
end
def sp1 (pre : Int → Prop) (g : Int → V) : Sp := fun vs H Q _ => ∃ a, vs = [.int a] ∧ pre a ∧ Q (g a) H
def sp2 (pre : Int → Int → Prop) (g : Int → Int → V) : Sp := fun vs H Q _ => ∃ a b, vs = [.int a, .int b] ∧ pre a b ∧ Q (g a b) H
def sp3 (pre : Int → Int → Int → Prop) (g : Int → Int → Int → V) : Sp := fun vs H Q _ => ∃ a b c, vs = [.int a, .int b, .int c] ∧ pre a b c ∧ Q (g a b c) H
theorem sp1_len {pre : Int → Prop} {g : Int → V} {x : Str} : ∀ vs H Q E, sp1 pre g vs H Q E → vs.length = [x].length := fun vs H Q E h => by obtain ⟨_, rfl, _⟩ := h; rfl
theorem sp2_len {pre : Int → Int → Prop} {g : Int → Int → V} {x y : Str} : ∀ vs H Q E, sp2 pre g vs H Q E → vs.length = [x, y].length := fun vs H Q E h => by obtain ⟨_, _, rfl, _⟩ := h; rfl
theorem sp3_len {pre : Int → Int → Int → Prop} {g : Int → Int → Int → V} {x y z : Str} : ∀ vs H Q E, sp3 pre g vs H Q E → vs.length = [x, y, z].length := fun vs H Q E h => by obtain ⟨_, _, _, rfl, _⟩ := h; rfl
theorem mask64 (z : Int) : Builtin.bitAnd z 18446744073709551615 = wrapZ z := PySem.W.kbt_mask z 64
theorem maskN (z : Int) (n : Nat) : Builtin.bitAnd z (1 * 2 ^ n - 1) = z % 2 ^ n := by rw [Int.one_mul]; exact PySem.W.kbt_mask z n
theorem cpow1 {n : Int} (h : 0 ≤ n) (h2 : n ≤ 64) : CPow 1 n := ⟨h, by omega, by decide⟩
theorem qe {Q : VK} {v v' : V} {H : Hp} (e : v' = v) (q : Q v H) : Q v' H := by rw [e]; exact q
def spWrap : Sp := sp1 (fun _ => True) fun z => .int (wrapZ z)
def spField : Sp := sp3 (fun _ l n => 0 ≤ l ∧ 0 ≤ n ∧ n ≤ 64) fun z l n => .int (fieldZ z l n)
def spSigned : Sp := sp2 (fun _ n => 1 ≤ n ∧ n ≤ 64) fun z n => .int (signedZ z n)
def spExtend : Sp := sp2 (fun _ n => 1 ≤ n ∧ n ≤ 64) fun z n => .int (extendZ z n)
end Sp8
end
section
namespace Sp8
open PySem PySem.Spec PyProof.Rows L2
def KD (P : Program) (w : World) (K : PySem.W.Frag) (a : Addr) (kvs : List (Key × V)) : Prop :=
  ∀ h : Heap, K.In h → (a == sysModules) = false ∧ ∃ vs, KV kvs vs ∧ h.DictOf (mixKind P w) a vs
def KDT (P : Program) (w : World) (K : PySem.W.Frag) (a : Addr) (kvs : List (List Key × V)) : Prop :=
  ∀ h : Heap, K.In h → (a == sysModules) = false ∧ ∃ xs : List (List Key × Addr × Value), Paired (fun (p : List Key × V) (q : List Key × Addr × Value) => p.1 = q.1 ∧ RelV p.2 q.2.2) kvs xs ∧ h.DictOfH (tupleKind (mixKind P w)) a xs
theorem ktVal {kvs : List (List Key × V)} {xs : List (List Key × Addr × Value)} (r : Paired (fun (p : List Key × V) (q : List Key × Addr × Value) => p.1 = q.1 ∧ RelV p.2 q.2.2) kvs xs) (k : List Key) : RelO (valV kvs k) ((atKey xs k).map (·.2)) := by
  induction r with
  | nil => exact True.intro
  | @cons p q ps qs h t ih =>
    obtain ⟨h1, h2⟩ := h
    by_cases e : p.1 = k
    · have e' : q.1 = k := h1.symm.trans e
      have b : atKey (q :: qs) k = some q.2 := by simp [atKey, List.find?_cons, e']
      rw [valV_pos e, b]
      exact h2
    · have e' : ¬ q.1 = k := fun z => e (h1.trans z)
      have b : atKey (q :: qs) k = atKey qs k := by simp [atKey, List.find?_cons, e']
      rw [valV_neg e, b]
      exact ih
def KGet (P : Program) (w : World) (K : PySem.W.Frag) (H : Hp) (a : Addr) (y : V) (r : Option V) : Prop :=
  (∃ kvs k, KD P w K a kvs ∧ y = kV k ∧ r = valV kvs k) ∨ ∃ kvs k b, KDT P w K a kvs ∧ y = .ref b ∧ H b = some (.tup (k.map kV)) ∧ r = valV kvs k
def IsK (P : Program) (w : World) (K : PySem.W.Frag) (a : Addr) : Prop := (∃ kvs, KD P w K a kvs) ∨ ∃ kvs, KDT P w K a kvs
section
variable {X : Cx} {pins : List (Addr × Obj)} {σ : L2.St} {H : Hp} {s : Shared} {a : Addr} {y v : V} {u r : Value} {o : Option V} {A : Around} {E : Value → Shared → Prop}
theorem isK_at (I : Inv X pins σ H s) (d : IsK X.prog X.w X.K a) : s.TypeIs (.ref a) "dict" ∧ ∀ b, Value.ref a = .ref b → ∃ ob, s.heap.get? b = some ob ∧ ob.dict = none := by
  rcases d with ⟨kvs, e⟩ | ⟨kvs, e⟩
  · obtain ⟨_, vs, _, dd⟩ := e _ I.kIn
    refine ⟨dd.typeIs, fun b q => ?_⟩
    cases q
    obtain ⟨ob, _, _, h1, h2, _⟩ := dd
    exact ⟨ob, h1, h2.2.1⟩
  · obtain ⟨_, xs, _, dd⟩ := e _ I.kIn
    refine ⟨dd.typeIs, fun b q => ?_⟩
    cases q
    obtain ⟨ob, _, _, h1, h2, _⟩ := dd
    exact ⟨ob, h1, h2.2.1⟩
theorem KGet.isK (g : KGet X.prog X.w X.K H a y o) : IsK X.prog X.w X.K a := by
  rcases g with ⟨kvs, k, e, _, _⟩ | ⟨kvs, k, b, e, _, _, _⟩
  · exact .inl ⟨kvs, e⟩
  · exact .inr ⟨kvs, e⟩
theorem k_getItem {Q : Value → Shared → Prop} (hu : A.units + 1 < cLine) (I : Inv X pins σ H s) (g : KGet X.prog X.w X.K H a y (some v)) (ry : RelV y u) (h : ∀ w' s', Inv X pins σ H s' → RelV v w' → Q w' s') :
    wpAny (model X.prog X.w) A (getItem (.ref a) u) Q E s := by
  rcases g with ⟨kvs, k, e, ey, l⟩ | ⟨kvs, k, b, e, ey, eb, l⟩
  · subst ey
    obtain ⟨hd, vs, rel, dd⟩ := e _ I.kIn
    obtain ⟨w', hw, rw'⟩ := RelO.some_of (v := v) (o := valueAt vs k) (by rw [l]; exact rel.val k)
    exact wpAny_getItem_of (kV_is ry) dd.mapOf hw (h w' _ (I.tok _) rw')
  · subst ey
    cases (show u = Value.ref b from ry)
    obtain ⟨hd, xs, rel, dd⟩ := e _ I.kIn
    obtain ⟨w', hw, rw'⟩ := RelO.some_of (v := v) (o := (atKey xs k).map (·.2)) (by rw [l]; exact ktVal rel k)
    obtain ⟨p, hp, hp2⟩ := Option.map_eq_some_iff.mp hw
    refine wpAny_getItem_heap (tupleKind_room_in1 hu) (key_of I.hok eb) dd hp ?_
    rw [hp2]
    exact h w' _ (I.tok _) rw'
theorem k_in {Q : Value → Shared → Prop} (hu : A.units + 1 < cLine) (I : Inv X pins σ H s) (g : KGet X.prog X.w X.K H a y o) (ry : RelV y u) (h : ∀ s', Inv X pins σ H s' → Q (.bool o.isSome) s') :
    wpAny (model X.prog X.w) A (compareOp .In u (.ref a)) Q E s := by
  rcases g with ⟨kvs, k, e, ey, l⟩ | ⟨kvs, k, b, e, ey, eb, l⟩
  · subst ey
    obtain ⟨hd, vs, rel, dd⟩ := e _ I.kIn
    refine wpAny_in_of (kV_is ry) hd dd.mapOf ?_
    rw [← (rel.val k).isSome_eq, ← l]
    exact h _ (I.tok _)
  · subst ey
    cases (show u = Value.ref b from ry)
    obtain ⟨hd, xs, rel, dd⟩ := e _ I.kIn
    refine wpAny_in_heap (tupleKind_room_in1 hu) (key_of I.hok eb) hd dd ?_
    have q := (ktVal rel k).isSome_eq
    rw [Option.isSome_map] at q
    rw [← q, ← l]
    exact h _ (I.tok _)
theorem k_notIn {Q : Value → Shared → Prop} (hu : A.units + 1 < cLine) (I : Inv X pins σ H s) (g : KGet X.prog X.w X.K H a y o) (ry : RelV y u) (h : ∀ s', Inv X pins σ H s' → Q (.bool (!o.isSome)) s') :
    wpAny (model X.prog X.w) A (compareOp .NotIn u (.ref a)) Q E s := by
  rcases g with ⟨kvs, k, e, ey, l⟩ | ⟨kvs, k, b, e, ey, eb, l⟩
  · subst ey
    obtain ⟨hd, vs, rel, dd⟩ := e _ I.kIn
    refine wpAny_notIn_of (kV_is ry) hd dd.mapOf ?_
    rw [← (rel.val k).isSome_eq, ← l]
    exact h _ (I.tok _)
  · subst ey
    cases (show u = Value.ref b from ry)
    obtain ⟨hd, xs, rel, dd⟩ := e _ I.kIn
    refine wpAny_notIn_heap (tupleKind_room_in1 hu) (key_of I.hok eb) hd dd ?_
    have q := (ktVal rel k).isSome_eq
    rw [Option.isSome_map] at q
    rw [← q, ← l]
    exact h _ (I.tok _)
theorem k_get1 {Q : Value → Shared → Prop} (hu : A.units + 1 < cLine) (I : Inv X pins σ H s) (g : KGet X.prog X.w X.K H a y o) (ry : RelV y u) (h : ∀ w' s', Inv X pins σ H s' → RelV (o.getD .non) w' → Q w' s') :
    wpAny (model X.prog X.w) A (call (.builtin "dict.get") [.ref a, u]) Q E s := by
  rcases g with ⟨kvs, k, e, ey, l⟩ | ⟨kvs, k, b, e, ey, eb, l⟩
  · subst ey
    obtain ⟨hd, vs, rel, dd⟩ := e _ I.kIn
    refine call_meetsIn PySem.F.slot_dict_get dd.typeIs PySem.F.entry_dict_get (PySem.F.args_dict_get_2 _ _) (meets_dict_get (mixKind X.prog X.w) a (kV_is ry) hd) ⟨_, dd.mapOf, h _ _ (I.tok _) ?_⟩
    rw [l]
    exact (rel.val k).getD rfl
  · subst ey
    cases (show u = Value.ref b from ry)
    obtain ⟨hd, xs, rel, dd⟩ := e _ I.kIn
    refine call_meetsIn PySem.F.slot_dict_get dd.typeIs PySem.F.entry_dict_get (PySem.F.args_dict_get_2 _ _) (meetsH_dict_get (tupleKind (mixKind X.prog X.w)) a b hd) ⟨tupleKind_room_in1 hu, k, xs, key_of I.hok eb, dd, h _ _ (I.tok _) ?_⟩
    rw [l]
    exact (ktVal rel k).getD rfl
end
def tKGet (P : Program) (w : World) (K : PySem.W.Frag) (td ty : TE) : TE := fun σ H Q => td σ H fun x H1 => ty σ H1 fun y H2 => ∃ a v, x = .ref a ∧ KGet P w K H2 a y (some v) ∧ Q v H2
def tKIn (P : Program) (w : World) (K : PySem.W.Frag) (ty td : TE) : TE := fun σ H Q => ty σ H fun y H1 => td σ H1 fun x H2 => ∃ a o, x = .ref a ∧ KGet P w K H2 a y o ∧ Q (.bl o.isSome) H2
def tKNotIn (P : Program) (w : World) (K : PySem.W.Frag) (ty td : TE) : TE := fun σ H Q => ty σ H fun y H1 => td σ H1 fun x H2 => ∃ a o, x = .ref a ∧ KGet P w K H2 a y o ∧ Q (.bl (!o.isSome)) H2
def tKGet1 (P : Program) (w : World) (K : PySem.W.Frag) (td ty : TE) : TE := fun σ H Q => td σ H fun x H1 => ∃ a, x = .ref a ∧ IsK P w K a ∧ ty σ H1 fun y H2 => ∃ o, KGet P w K H2 a y o ∧ Q (o.getD .non) H2
section
variable {X : Cx} {o i e : Expr} {pos apos cpos : Pos} {td ty : TE}
theorem pe_kget (hu : X.A.units + 1 < cLine) (ho : PE X o td) (hi : PE X i ty) (hs : NoSl i) : PE X (.Subscript o i pos) (tKGet X.prog X.w X.K td ty) := by
  intro pins s σ H Q I h
  refine subD_of PySem.F.slot_dict_getitem.lookup hs (thn (ho pins s σ H _ I h) fun u s1 ⟨x, H1, I1, rx, q1⟩ => thn (hi pins s1 σ H1 _ I1 q1) fun iv s2 ⟨y, H2, I2, ry, a, v, ex, g, q2⟩ => ?_)
  subst ex
  obtain rfl : u = Value.ref a := rx
  exact ⟨(isK_at I2 g.isK).1, k_getItem hu I2 g ry fun w' s3 I3 rw' => ⟨v, H2, I3, rw', q2⟩⟩
theorem pc_kin (hu : X.A.units + 1 < cLine) (hi : PE X i ty) (ho : PE X o td) : PC X .In i o (tKIn X.prog X.w X.K ty td) := by
  intro pins s σ H Q I h
  refine thn (hi pins s σ H _ I h) fun iv s1 ⟨y, H1, I1, ry, q1⟩ => thn (ho pins s1 σ H1 _ I1 q1) fun u s2 ⟨x, H2, I2, rx, a, ov, ex, g, q2⟩ => ?_
  subst ex
  obtain rfl : u = Value.ref a := rx
  exact k_in hu I2 g ry fun s3 I3 => ⟨.bl ov.isSome, H2, I3, rfl, q2⟩
theorem pc_knotin (hu : X.A.units + 1 < cLine) (hi : PE X i ty) (ho : PE X o td) : PC X .NotIn i o (tKNotIn X.prog X.w X.K ty td) := by
  intro pins s σ H Q I h
  refine thn (hi pins s σ H _ I h) fun iv s1 ⟨y, H1, I1, ry, q1⟩ => thn (ho pins s1 σ H1 _ I1 q1) fun u s2 ⟨x, H2, I2, rx, a, ov, ex, g, q2⟩ => ?_
  subst ex
  obtain rfl : u = Value.ref a := rx
  exact k_notIn hu I2 g ry fun s3 I3 => ⟨.bl (!ov.isSome), H2, I3, rfl, q2⟩
theorem pe_kget1 (hu : X.A.units + 1 < cLine) (ho : PE X o td) (he : PE X e ty) (m : M1 X o "get" apos e cpos) : PE X (.Call (.Attribute o "get" apos) [e] [] cpos) (tKGet1 X.prog X.w X.K td ty) := by
  intro pins s σ H Q I h
  refine wpAny_Call_method m.base m.few m.line PySem.F.plainAttrs_dict PySem.F.slot_dict_get PySem.F.type_dict_get (thn (ho pins s σ H _ I h) fun u s1 ⟨x, H1, I1, rx, a, ex, d, q1⟩ => ?_)
  subst ex
  obtain rfl : u = Value.ref a := rx
  obtain ⟨t1, t2⟩ := isK_at I1 d
  refine ⟨t1, t2, ?_⟩
  rw [m.trees]
  refine Calls.callWith_builtin rfl (Calls.evalArgs_plain (Calls.spliced_cons (thn (he pins s1 σ H1 _ I1 q1) fun iv s2 ⟨y, H2, I2, ry, ov, g, q2⟩ => Calls.spliced_nil ?_)))
  exact k_get1 hu I2 g ry fun w' s3 I3 rw' => ⟨_, H2, I3, rw', q2⟩
end
structure OkM (P : Program) (w : World) (K : PySem.W.Frag) (mg : Str → Option Value) (base : Heap) (k : Nat) (C : Addr) (m : Str) (ps : List Str) (sp : Sp) : Prop where
  fn : ∃ f fd, FnOk P w K mg base CX0 k f fd ps sp ∧ Binds K fd ps [] ∧ Meth K C m f
section
variable {X : Cx} {k j : Nat} {f C : Addr} {ps : List Str} {sp : Sp} {x m : Str} {p pos apos : Pos} {e o : Expr} {es : List Expr} {ta : TE} {t : TA}
theorem pe_m {pl : Sem Bool} (he : PE X o ta) (c : Cls X.K C) (G : OkM X.prog X.w X.K X.mg X.base k C m ps sp) (hr : Room j X.A) (ha : PA X (e :: es) t) (hk : k ≤ j := by decide)
    (hst : starEach (e :: es) X.env = (false, eval e X.env) :: starEach es X.env := by rfl) (hpl : (backTo pos (starEach es X.env)).any (·.1) = false := by rfl)
    (ht : eval (.Call (.Attribute o m apos) (e :: es) [] pos) X.env = (do
      let ov ← eval o X.env
      standAt apos.atName
      let (f, first) ← holding [ov] (getMethod ov m pl)
      callWith pos f first (backTo pos (starEach (e :: es) X.env)) (backToKw pos (keywordEach [] X.env))) := by rfl) :
    PE X (.Call (.Attribute o m apos) (e :: es) [] pos) (tMeth C m sp [] E0 ta t) := by
  obtain ⟨f, fd, F, b, hm⟩ := G.fn
  exact pe_meth he c hm F (hr.mono hk) b .nil pass0 ha hst hpl ht
theorem pe_m0 {pl : Sem Bool} (he : PE X o ta) (c : Cls X.K C) (G : OkM X.prog X.w X.K X.mg X.base k C m ps sp) (hr : Room j X.A) (hk : k ≤ j := by decide)
    (ht : eval (.Call (.Attribute o m apos) [] [] pos) X.env = (do
      let ov ← eval o X.env
      standAt apos.atName
      let (f, first) ← holding [ov] (getMethod ov m pl)
      callWith pos f first (backTo pos (starEach [] X.env)) (backToKw pos (keywordEach [] X.env))) := by rfl) :
    PE X (.Call (.Attribute o m apos) [] [] pos) (tMeth C m sp [] E0 ta tNil) := by
  obtain ⟨f, fd, F, b, hm⟩ := G.fn
  exact pe_meth0 he c hm F (hr.mono hk) b .nil pass0 ht
end
structure OkC (P : Program) (w : World) (K : PySem.W.Frag) (mg : Str → Option Value) (base : Heap) (k : Nat) (C : Addr) (ps : List Str) (sp : Sp) : Prop where
  fn : ∃ f fd, FnOk P w K mg base CX0 k f fd ps sp ∧ Binds K fd ps [] ∧ Mk K C f
section
variable {X : Cx} {k j : Nat} {f C : Addr} {ps : List Str} {sp : Sp} {x m : Str} {p pos apos : Pos} {e o : Expr} {es : List Expr} {ta : TE} {t : TA}
theorem pe_c (hm : X.mg x = some (.ref C)) (G : OkC X.prog X.w X.K X.mg X.base k C ps sp) (hr : Room j X.A) (ha : PA X (e :: es) t) (hk : k + 1 ≤ j := by decide) (hg : Gl X x := by rfl)
    (hdb : (x == ("__debug__" : Str)) = false := by decide) (he : starEach (e :: es) X.env = (false, eval e X.env) :: starEach es X.env := by rfl) (hpl : (backTo pos (starEach es X.env)).any (·.1) = false := by rfl) :
    PE X (.Call (.Name x p) (e :: es) [] pos) (tMake C sp [] E0 t) := by
  obtain ⟨f, fd, F, b, M⟩ := G.fn
  exact pe_make M F (hr.mono hk) hg hm b .nil pass0 ha hdb he hpl
theorem pe_c0 (hm : X.mg x = some (.ref C)) (G : OkC X.prog X.w X.K X.mg X.base k C ps sp) (hr : Room j X.A) (hk : k + 1 ≤ j := by decide) (hg : Gl X x := by rfl)
    (hdb : (x == ("__debug__" : Str)) = false := by decide) : PE X (.Call (.Name x p) [] [] pos) (tMake C sp [] E0 tNil) := by
  obtain ⟨f, fd, F, b, M⟩ := G.fn
  exact pe_make0 M F (hr.mono hk) hg hm b .nil pass0 hdb
end
theorem boot_abs : bootBuiltins "abs" = some (.builtin "abs") := by decide +kernel
theorem op_fdivB {X : Cx} : OpR X (binaryOp .FloorDiv) (rI (fun _ j => j ≠ 0 ∧ j.natAbs < 2 ^ 100) fun i j => .int (i.fdiv j)) := opI fun i j _ _ _ _ _ hc q => floordiv_int hc.1 q (.inl (PyProof.noPylong_of_log2 (by
  have h0 : j.natAbs ≠ 0 := by have := hc.1; omega
  have h100 : j.natAbs.log2 < 100 := (Nat.log2_lt h0).mpr hc.2
  omega)))
end Sp8
end
section
namespace Sp8
open PySem PySem.Spec PyProof.Rows L2
open Sg08 (Alu WORD)
def spAlu (o : Alu) : Sp := fun vs H Q _ => ∃ a b : Nat, vs = [.int a, .int b] ∧ a < WORD ∧ b < WORD ∧ Q (.int (o.of a b)) H
theorem spAlu_len {o : Alu} {x y : Str} : ∀ vs H Q E, spAlu o vs H Q E → vs.length = [x, y].length := fun vs H Q E h => by obtain ⟨_, _, rfl, _⟩ := h; rfl
def spLess : Sp := sp2 (fun _ _ => True) fun a b => .int (if a < b then 1 else 0)
def spQuot : Sp := sp2 (fun a b => a.natAbs < 2 ^ 64 ∧ b.natAbs < 2 ^ 64) fun a b => .int (quotZ a b)
def spRem : Sp := sp2 (fun a b => a.natAbs < 2 ^ 64 ∧ b.natAbs < 2 ^ 64) fun a b => .int (a - b * quotZ a b)
theorem spLess_alu : ∀ vs H Q E, spAlu .sltu vs H Q E → spLess vs H Q E := fun vs H Q E h => by
  obtain ⟨a, b, rfl, ha, hb, q⟩ := h
  exact ⟨a, b, rfl, trivial, qe (congrArg V.int z_is_less) q⟩
theorem quot_key (a b : Int) (h : ¬ b = 0) : (if decide (a < 0) = decide (b < 0) then (if a < 0 then -a else a).fdiv (if b < 0 then -b else b) else -(if a < 0 then -a else a).fdiv (if b < 0 then -b else b)) = quotZ a b := by
  rw [quotZ, if_neg h]
  by_cases ha : a < 0 <;> by_cases hb : b < 0
  · rw [if_pos (by simp [ha, hb]), if_pos ha, if_pos hb, Int.fdiv_eq_tdiv_of_nonneg (by omega) (by omega), Int.neg_tdiv_neg]
  · rw [if_neg (by simp [ha, hb]), if_pos ha, if_neg hb, Int.fdiv_eq_tdiv_of_nonneg (by omega) (by omega), Int.neg_tdiv, Int.neg_neg]
  · rw [if_neg (by simp [ha, hb]), if_neg ha, if_pos hb, Int.fdiv_eq_tdiv_of_nonneg (by omega) (by omega), Int.tdiv_neg, Int.neg_neg]
  · rw [if_pos (by simp [ha, hb]), if_neg ha, if_neg hb, Int.fdiv_eq_tdiv_of_nonneg (by omega) (by omega)]
section
variable {a b : Nat}
theorem bN (h : a < WORD) : (a : Int).natAbs < 2 ^ 64 := by rw [WORD_eq] at h; omega
theorem b64 : (signedZ (a : Int) 64).natAbs < 2 ^ 64 := by rw [signedZ64]; have := s64_bounds (n := a); omega
theorem b32 : (signedZ (a : Int) 32).natAbs < 2 ^ 64 := by rw [signedZ32]; have := s32_bounds (n := a); omega
theorem bF : (fieldZ (a : Int) 0 32).natAbs < 2 ^ 64 := by rw [field32]; omega
theorem cpow6 (h : a < WORD) : CPow (a : Int) (fieldZ (b : Int) 0 6) := ⟨fieldZ_nn _ _ _, by rw [field6]; omega, bN h⟩
theorem cpow5 (h : a < WORD) : CPow (a : Int) (fieldZ (b : Int) 0 5) := ⟨fieldZ_nn _ _ _, by rw [field5]; omega, bN h⟩
theorem cmulL {x y : Int} (h : x.natAbs < 2 ^ 64) : CMul x y := .inl ⟨by omega, by omega⟩
theorem or_nat (x y : Nat) : Builtin.bitOr (x : Int) (y : Int) = ((x ||| y : Nat) : Int) := by
  rw [bitOr_and, bitAnd_pp (Int.natCast_nonneg _) (Int.natCast_nonneg _), Int.toNat_natCast, Int.toNat_natCast]
  have h : x + y = (x ||| y) + (x &&& y) := (or_and_add x y).symm
  omega
theorem and_nat (x y : Nat) : Builtin.bitAnd (x : Int) (y : Int) = ((x &&& y : Nat) : Int) := by
  rw [bitAnd_pp (Int.natCast_nonneg _) (Int.natCast_nonneg _), Int.toNat_natCast, Int.toNat_natCast]
theorem xor_nat (x y : Nat) : Builtin.bitXor (x : Int) (y : Int) = ((x ^^^ y : Nat) : Int) := by
  unfold Builtin.bitXor
  rw [or_nat, and_nat]
  have h : x ||| y = (x ^^^ y) + (x &&& y) := (xor_and_or x y).symm
  omega
theorem z_bit_and : Builtin.bitAnd (a : Int) (b : Int) = ((Alu.of .and a b : Nat) : Int) := and_nat a b
theorem z_bit_or : Builtin.bitOr (a : Int) (b : Int) = ((Alu.of .or a b : Nat) : Int) := or_nat a b
theorem z_bit_xor : Builtin.bitXor (a : Int) (b : Int) = ((Alu.of .xor a b : Nat) : Int) := xor_nat a b
end
end Sp8
end
section
namespace Sp8
open PySem PySem.Spec PyProof.Rows L2
open Sg08 (Alu WORD Machine Instr)
section
variable {P : Program} {w : World} {K : PySem.W.Frag} {mg : Str → Option Value} {base : Heap}
theorem sc_F : FnScope ["number"] ["number"] (defScope (top 2)) := ⟨rfl, rfl, rfl, by decide +kernel, rfl, by decide +kernel, by decide +kernel⟩
theorem ok_0 {f_4 : Addr} {t_d : Tok} (D : Def K "wrap" "wrap" (top 2) ["number"] f_4) (m_L : mg "MASK_64" = some (.int 18446744073709551615 t_d)) : Ok P w K mg base 1 f_4 ["number"] spWrap := by
  refine D.ok sc_F sp1_len fun cdv A outer s H vs Q E hr h => ?_
  refine ⟨_, (pss_one (ps_ret (pe_op op_and (pv 0) (pe_glob (v := .int 18446744073709551615) rfl m_L ⟨_, rfl⟩)))), ?_⟩
  obtain ⟨z, rfl, -, q⟩ := h
  exact ⟨_, rfl, _, _, rfl, rfl, qe (congrArg V.int (mask64 z)) q⟩
theorem sc_G : FnScope ["word", "low", "width"] ["word", "low", "width"] (defScope (top 3)) := ⟨rfl, rfl, rfl, by decide +kernel, rfl, by decide +kernel, by decide +kernel⟩
theorem ok_1 {f_0 : Addr} (D : Def K "field" "field" (top 3) ["word", "low", "width"] f_0)  : Ok P w K mg base 1 f_0 ["word", "low", "width"] spField := by
  refine D.ok sc_G sp3_len fun cdv A outer s H vs Q E hr h => ?_
  refine ⟨_, (pss_one (ps_ret (pe_op op_and (pe_op op_shr (pv 0) (pv 1)) (pe_op op_sub (pe_op op_shl pe_int (pv 2)) pe_int)))), ?_⟩
  obtain ⟨z, l, n, rfl, ⟨h1, h2, h3⟩, q⟩ := h
  exact ⟨_, rfl, _, rfl, _, _, rfl, rfl, h1, _, rfl, _, _, rfl, rfl, cpow1 h2 h3, _, _, rfl, rfl, _, _, rfl, rfl, qe (congrArg V.int (maskN _ _)) q⟩
theorem sc_h : FnScope ["number", "width", "lowest"] ["number", "width"] (defScope (top 4)) := ⟨rfl, rfl, rfl, by decide +kernel, rfl, by decide +kernel, by decide +kernel⟩
theorem ok_2 {f_6 f_0 : Addr} (D : Def K "signed" "signed" (top 4) ["number", "width"] f_6) (m_0 : mg "field" = some (.ref f_0)) (G_0 : Ok P w K mg base 1 f_0 ["word", "low", "width"] spField) : Ok P w K mg base 2 f_6 ["number", "width"] spSigned := by
  refine D.ok sc_h sp2_len fun cdv A outer s H vs Q E hr h => ?_
  refine ⟨_, (pss_cons (ps_set (i := 2) sc_h.nd rfl (Or.inl rfl) (pe_g m_0 G_0 hr (pa_cons (pv 0) (pa_cons pe_int (pa_cons (pv 1) pa_nil))))) (pss_cons (ps_if (pt_cmpR op_eq (pe_g m_0 G_0 hr (pa_cons (pv 0) (pa_cons (pe_op op_sub (pv 1) pe_int) (pa_cons pe_int pa_nil)))) pe_int (nomark _)) (pss_one (ps_ret (pe_op op_sub (pv 2) (pe_op op_shl pe_int (pv 1))))) pss_nil) (pss_one (ps_ret (pv 2))))), ?_⟩
  obtain ⟨z, n, rfl, ⟨h1, h2⟩, q⟩ := h
  refine ⟨_, rfl, _, rfl, _, _, _, rfl, ⟨by omega, by omega, by omega⟩, _, rfl, _, rfl, _, _, rfl, rfl, _, _, _, rfl, ⟨by omega, by omega, by omega⟩, rfl, _, rfl, ?_⟩
  refine ite2 (fun e => ?_) fun e => ?_
  · have e' : fieldZ z (n - 1) 1 = 1 := V.int.inj (of_decide_eq_true e)
    exact ⟨_, rfl, _, rfl, _, _, rfl, rfl, cpow1 (by omega) (by omega), _, _, rfl, rfl, qe (congrArg V.int (by rw [Int.one_mul, signedZ, if_pos e'])) q⟩
  · have e' : ¬ fieldZ z (n - 1) 1 = 1 := fun z => e (decide_eq_true (congrArg V.int z))
    exact ⟨_, rfl, qe (congrArg V.int (by rw [signedZ, if_neg e'])) q⟩
theorem sc_H : FnScope ["number", "width"] ["number", "width"] (defScope (top 5)) := ⟨rfl, rfl, rfl, by decide +kernel, rfl, by decide +kernel, by decide +kernel⟩
theorem ok_3 {f_1 f_4 f_6 : Addr} (D : Def K "extend" "extend" (top 5) ["number", "width"] f_1) (m_4 : mg "wrap" = some (.ref f_4)) (G_4 : Ok P w K mg base 1 f_4 ["number"] spWrap) (m_5 : mg "signed" = some (.ref f_6)) (G_5 : Ok P w K mg base 2 f_6 ["number", "width"] spSigned) : Ok P w K mg base 3 f_1 ["number", "width"] spExtend := by
  refine D.ok sc_H sp2_len fun cdv A outer s H vs Q E hr h => ?_
  refine ⟨_, (pss_one (ps_ret (pe_g m_4 G_4 hr (pa_cons (pe_g m_5 G_5 hr (pa_cons (pv 0) (pa_cons (pv 1) pa_nil))) pa_nil)))), ?_⟩
  obtain ⟨z, n, rfl, h1, q⟩ := h
  exact ⟨_, rfl, _, rfl, _, _, rfl, h1, _, rfl, trivial, q⟩
theorem sc_I : FnScope ["a", "b"] ["a", "b"] (defScope (top 8)) := ⟨rfl, rfl, rfl, by decide +kernel, rfl, by decide +kernel, by decide +kernel⟩
theorem ok_4 {f_14 f_4 : Addr} (D : Def K "add" "add" (top 8) ["a", "b"] f_14) (m_4 : mg "wrap" = some (.ref f_4)) (G_4 : Ok P w K mg base 1 f_4 ["number"] spWrap) : Ok P w K mg base 2 f_14 ["a", "b"] (spAlu .add) := by
  refine D.ok sc_I spAlu_len fun cdv A outer s H vs Q E hr h => ?_
  refine ⟨_, (pss_one (ps_ret (pe_g m_4 G_4 hr (pa_cons (pe_op op_add (pv 0) (pv 1)) pa_nil)))), ?_⟩
  obtain ⟨a, b, rfl, ha, hb, q⟩ := h
  exact ⟨_, rfl, _, rfl, _, _, rfl, rfl, _, rfl, trivial, qe (congrArg V.int z_add) q⟩
theorem sc_J : FnScope ["a", "b"] ["a", "b"] (defScope (top 9)) := ⟨rfl, rfl, rfl, by decide +kernel, rfl, by decide +kernel, by decide +kernel⟩
theorem ok_5 {f_15 f_4 : Addr} (D : Def K "subtract" "subtract" (top 9) ["a", "b"] f_15) (m_4 : mg "wrap" = some (.ref f_4)) (G_4 : Ok P w K mg base 1 f_4 ["number"] spWrap) : Ok P w K mg base 2 f_15 ["a", "b"] (spAlu .sub) := by
  refine D.ok sc_J spAlu_len fun cdv A outer s H vs Q E hr h => ?_
  refine ⟨_, (pss_one (ps_ret (pe_g m_4 G_4 hr (pa_cons (pe_op op_sub (pv 0) (pv 1)) pa_nil)))), ?_⟩
  obtain ⟨a, b, rfl, ha, hb, q⟩ := h
  exact ⟨_, rfl, _, rfl, _, _, rfl, rfl, _, rfl, trivial, qe (congrArg V.int z_subtract) q⟩
theorem sc_K : FnScope ["a", "b"] ["a", "b"] (defScope (top 10)) := ⟨rfl, rfl, rfl, by decide +kernel, rfl, by decide +kernel, by decide +kernel⟩
theorem ok_6 {f_16 : Addr} (D : Def K "bit_and" "bit_and" (top 10) ["a", "b"] f_16)  : Ok P w K mg base 1 f_16 ["a", "b"] (spAlu .and) := by
  refine D.ok sc_K spAlu_len fun cdv A outer s H vs Q E hr h => ?_
  refine ⟨_, (pss_one (ps_ret (pe_op op_and (pv 0) (pv 1)))), ?_⟩
  obtain ⟨a, b, rfl, ha, hb, q⟩ := h
  exact ⟨_, rfl, _, rfl, _, _, rfl, rfl, qe (congrArg V.int z_bit_and) q⟩
theorem sc_L : FnScope ["a", "b"] ["a", "b"] (defScope (top 11)) := ⟨rfl, rfl, rfl, by decide +kernel, rfl, by decide +kernel, by decide +kernel⟩
theorem ok_7 {f_17 : Addr} (D : Def K "bit_or" "bit_or" (top 11) ["a", "b"] f_17)  : Ok P w K mg base 1 f_17 ["a", "b"] (spAlu .or) := by
  refine D.ok sc_L spAlu_len fun cdv A outer s H vs Q E hr h => ?_
  refine ⟨_, (pss_one (ps_ret (pe_op op_or (pv 0) (pv 1)))), ?_⟩
  obtain ⟨a, b, rfl, ha, hb, q⟩ := h
  exact ⟨_, rfl, _, rfl, _, _, rfl, rfl, qe (congrArg V.int z_bit_or) q⟩
theorem sc_M : FnScope ["a", "b"] ["a", "b"] (defScope (top 12)) := ⟨rfl, rfl, rfl, by decide +kernel, rfl, by decide +kernel, by decide +kernel⟩
theorem ok_8 {f_18 : Addr} (D : Def K "bit_xor" "bit_xor" (top 12) ["a", "b"] f_18)  : Ok P w K mg base 1 f_18 ["a", "b"] (spAlu .xor) := by
  refine D.ok sc_M spAlu_len fun cdv A outer s H vs Q E hr h => ?_
  refine ⟨_, (pss_one (ps_ret (pe_op op_xor (pv 0) (pv 1)))), ?_⟩
  obtain ⟨a, b, rfl, ha, hb, q⟩ := h
  exact ⟨_, rfl, _, rfl, _, _, rfl, rfl, qe (congrArg V.int z_bit_xor) q⟩
theorem sc_N : FnScope ["a", "b"] ["a", "b"] (defScope (top 13)) := ⟨rfl, rfl, rfl, by decide +kernel, rfl, by decide +kernel, by decide +kernel⟩
theorem ok_9 {f_19 f_4 f_0 : Addr} (D : Def K "shift_left" "shift_left" (top 13) ["a", "b"] f_19) (m_4 : mg "wrap" = some (.ref f_4)) (G_4 : Ok P w K mg base 1 f_4 ["number"] spWrap) (m_0 : mg "field" = some (.ref f_0)) (G_0 : Ok P w K mg base 1 f_0 ["word", "low", "width"] spField) : Ok P w K mg base 2 f_19 ["a", "b"] (spAlu .sll) := by
  refine D.ok sc_N spAlu_len fun cdv A outer s H vs Q E hr h => ?_
  refine ⟨_, (pss_one (ps_ret (pe_g m_4 G_4 hr (pa_cons (pe_op op_shl (pv 0) (pe_g m_0 G_0 hr (pa_cons (pv 1) (pa_cons pe_int (pa_cons pe_int pa_nil))))) pa_nil)))), ?_⟩
  obtain ⟨a, b, rfl, ha, hb, q⟩ := h
  exact ⟨_, rfl, _, rfl, _, _, _, rfl, ⟨by decide, by decide, by decide⟩, _, _, rfl, rfl, cpow6 ha, _, rfl, trivial, qe (congrArg V.int z_shift_left) q⟩
theorem sc_O : FnScope ["a", "b"] ["a", "b"] (defScope (top 14)) := ⟨rfl, rfl, rfl, by decide +kernel, rfl, by decide +kernel, by decide +kernel⟩
theorem ok_a {f_1a f_0 : Addr} (D : Def K "shift_right" "shift_right" (top 14) ["a", "b"] f_1a) (m_0 : mg "field" = some (.ref f_0)) (G_0 : Ok P w K mg base 1 f_0 ["word", "low", "width"] spField) : Ok P w K mg base 2 f_1a ["a", "b"] (spAlu .srl) := by
  refine D.ok sc_O spAlu_len fun cdv A outer s H vs Q E hr h => ?_
  refine ⟨_, (pss_one (ps_ret (pe_op op_shr (pv 0) (pe_g m_0 G_0 hr (pa_cons (pv 1) (pa_cons pe_int (pa_cons pe_int pa_nil))))))), ?_⟩
  obtain ⟨a, b, rfl, ha, hb, q⟩ := h
  exact ⟨_, rfl, _, rfl, _, _, _, rfl, ⟨by decide, by decide, by decide⟩, _, _, rfl, rfl, fieldZ_nn _ _ _, qe (congrArg V.int z_shift_right) q⟩
theorem sc_P : FnScope ["a", "b"] ["a", "b"] (defScope (top 15)) := ⟨rfl, rfl, rfl, by decide +kernel, rfl, by decide +kernel, by decide +kernel⟩
theorem ok_b {f_1b f_4 f_6 f_0 : Addr} (D : Def K "shift_right_signed" "shift_right_signed" (top 15) ["a", "b"] f_1b) (m_4 : mg "wrap" = some (.ref f_4)) (G_4 : Ok P w K mg base 1 f_4 ["number"] spWrap) (m_5 : mg "signed" = some (.ref f_6)) (G_5 : Ok P w K mg base 2 f_6 ["number", "width"] spSigned) (m_0 : mg "field" = some (.ref f_0)) (G_0 : Ok P w K mg base 1 f_0 ["word", "low", "width"] spField) : Ok P w K mg base 3 f_1b ["a", "b"] (spAlu .sra) := by
  refine D.ok sc_P spAlu_len fun cdv A outer s H vs Q E hr h => ?_
  refine ⟨_, (pss_one (ps_ret (pe_g m_4 G_4 hr (pa_cons (pe_op op_shr (pe_g m_5 G_5 hr (pa_cons (pv 0) (pa_cons pe_int pa_nil))) (pe_g m_0 G_0 hr (pa_cons (pv 1) (pa_cons pe_int (pa_cons pe_int pa_nil))))) pa_nil)))), ?_⟩
  obtain ⟨a, b, rfl, ha, hb, q⟩ := h
  exact ⟨_, rfl, _, _, rfl, ⟨by decide, by decide⟩, _, rfl, _, _, _, rfl, ⟨by decide, by decide, by decide⟩, _, _, rfl, rfl, fieldZ_nn _ _ _, _, rfl, trivial, qe (congrArg V.int z_shift_right_signed) q⟩
theorem sc_Q : FnScope ["a", "b"] ["a", "b"] (defScope (top 16)) := ⟨rfl, rfl, rfl, by decide +kernel, rfl, by decide +kernel, by decide +kernel⟩
theorem ok_c {f_r : Addr} (D : Def K "is_less" "is_less" (top 16) ["a", "b"] f_r)  : Ok P w K mg base 1 f_r ["a", "b"] spLess := by
  refine D.ok sc_Q sp2_len fun cdv A outer s H vs Q E hr h => ?_
  refine ⟨_, (pss_one (ps_ret (pe_ifExp (pt_cmpR op_lt (pv 0) (pv 1) (nomark _)) pe_int pe_int))), ?_⟩
  obtain ⟨a, b, rfl, -, q⟩ := h
  refine ⟨_, rfl, _, rfl, _, _, rfl, rfl, _, rfl, ?_⟩
  refine ite2 (fun e => ?_) fun e => ?_
  · exact qe (congrArg V.int (if_pos (of_decide_eq_true e)).symm) q
  · exact qe (congrArg V.int (if_neg (fun z => e (decide_eq_true z))).symm) q
theorem sc_R : FnScope ["a", "b"] ["a", "b"] (defScope (top 17)) := ⟨rfl, rfl, rfl, by decide +kernel, rfl, by decide +kernel, by decide +kernel⟩
theorem ok_d {f_1c f_r f_6 : Addr} (D : Def K "is_less_signed" "is_less_signed" (top 17) ["a", "b"] f_1c) (m_M : mg "is_less" = some (.ref f_r)) (G_w : Ok P w K mg base 1 f_r ["a", "b"] spLess) (m_5 : mg "signed" = some (.ref f_6)) (G_5 : Ok P w K mg base 2 f_6 ["number", "width"] spSigned) : Ok P w K mg base 3 f_1c ["a", "b"] (spAlu .slt) := by
  refine D.ok sc_R spAlu_len fun cdv A outer s H vs Q E hr h => ?_
  refine ⟨_, (pss_one (ps_ret (pe_g m_M G_w hr (pa_cons (pe_g m_5 G_5 hr (pa_cons (pv 0) (pa_cons pe_int pa_nil))) (pa_cons (pe_g m_5 G_5 hr (pa_cons (pv 1) (pa_cons pe_int pa_nil))) pa_nil))))), ?_⟩
  obtain ⟨a, b, rfl, ha, hb, q⟩ := h
  exact ⟨_, rfl, _, _, rfl, ⟨by decide, by decide⟩, _, rfl, _, _, rfl, ⟨by decide, by decide⟩, _, _, rfl, trivial, qe (congrArg V.int z_is_less_signed) q⟩
theorem sc_S : FnScope ["a", "b"] ["a", "b"] (defScope (top 18)) := ⟨rfl, rfl, rfl, by decide +kernel, rfl, by decide +kernel, by decide +kernel⟩
theorem ok_e {f_1d f_1 : Addr} (D : Def K "add_32" "add_32" (top 18) ["a", "b"] f_1d) (m_1 : mg "extend" = some (.ref f_1)) (G_1 : Ok P w K mg base 3 f_1 ["number", "width"] spExtend) : Ok P w K mg base 4 f_1d ["a", "b"] (spAlu .addw) := by
  refine D.ok sc_S spAlu_len fun cdv A outer s H vs Q E hr h => ?_
  refine ⟨_, (pss_one (ps_ret (pe_g m_1 G_1 hr (pa_cons (pe_op op_add (pv 0) (pv 1)) (pa_cons pe_int pa_nil))))), ?_⟩
  obtain ⟨a, b, rfl, ha, hb, q⟩ := h
  exact ⟨_, rfl, _, rfl, _, _, rfl, rfl, _, _, rfl, ⟨by decide, by decide⟩, qe (congrArg V.int z_add_32) q⟩
theorem sc_T : FnScope ["a", "b"] ["a", "b"] (defScope (top 19)) := ⟨rfl, rfl, rfl, by decide +kernel, rfl, by decide +kernel, by decide +kernel⟩
theorem ok_f {f_1e f_1 : Addr} (D : Def K "subtract_32" "subtract_32" (top 19) ["a", "b"] f_1e) (m_1 : mg "extend" = some (.ref f_1)) (G_1 : Ok P w K mg base 3 f_1 ["number", "width"] spExtend) : Ok P w K mg base 4 f_1e ["a", "b"] (spAlu .subw) := by
  refine D.ok sc_T spAlu_len fun cdv A outer s H vs Q E hr h => ?_
  refine ⟨_, (pss_one (ps_ret (pe_g m_1 G_1 hr (pa_cons (pe_op op_sub (pv 0) (pv 1)) (pa_cons pe_int pa_nil))))), ?_⟩
  obtain ⟨a, b, rfl, ha, hb, q⟩ := h
  exact ⟨_, rfl, _, rfl, _, _, rfl, rfl, _, _, rfl, ⟨by decide, by decide⟩, qe (congrArg V.int z_subtract_32) q⟩
theorem sc_U : FnScope ["a", "b"] ["a", "b"] (defScope (top 20)) := ⟨rfl, rfl, rfl, by decide +kernel, rfl, by decide +kernel, by decide +kernel⟩
theorem ok_g {f_1f f_1 f_0 : Addr} (D : Def K "shift_left_32" "shift_left_32" (top 20) ["a", "b"] f_1f) (m_1 : mg "extend" = some (.ref f_1)) (G_1 : Ok P w K mg base 3 f_1 ["number", "width"] spExtend) (m_0 : mg "field" = some (.ref f_0)) (G_0 : Ok P w K mg base 1 f_0 ["word", "low", "width"] spField) : Ok P w K mg base 4 f_1f ["a", "b"] (spAlu .sllw) := by
  refine D.ok sc_U spAlu_len fun cdv A outer s H vs Q E hr h => ?_
  refine ⟨_, (pss_one (ps_ret (pe_g m_1 G_1 hr (pa_cons (pe_op op_shl (pv 0) (pe_g m_0 G_0 hr (pa_cons (pv 1) (pa_cons pe_int (pa_cons pe_int pa_nil))))) (pa_cons pe_int pa_nil))))), ?_⟩
  obtain ⟨a, b, rfl, ha, hb, q⟩ := h
  exact ⟨_, rfl, _, rfl, _, _, _, rfl, ⟨by decide, by decide, by decide⟩, _, _, rfl, rfl, cpow5 ha, _, _, rfl, ⟨by decide, by decide⟩, qe (congrArg V.int z_shift_left_32) q⟩
theorem sc_V : FnScope ["a", "b"] ["a", "b"] (defScope (top 21)) := ⟨rfl, rfl, rfl, by decide +kernel, rfl, by decide +kernel, by decide +kernel⟩
theorem ok_h {f_1g f_1 f_0 : Addr} (D : Def K "shift_right_32" "shift_right_32" (top 21) ["a", "b"] f_1g) (m_1 : mg "extend" = some (.ref f_1)) (G_1 : Ok P w K mg base 3 f_1 ["number", "width"] spExtend) (m_0 : mg "field" = some (.ref f_0)) (G_0 : Ok P w K mg base 1 f_0 ["word", "low", "width"] spField) : Ok P w K mg base 4 f_1g ["a", "b"] (spAlu .srlw) := by
  refine D.ok sc_V spAlu_len fun cdv A outer s H vs Q E hr h => ?_
  refine ⟨_, (pss_one (ps_ret (pe_g m_1 G_1 hr (pa_cons (pe_op op_shr (pe_g m_0 G_0 hr (pa_cons (pv 0) (pa_cons pe_int (pa_cons pe_int pa_nil)))) (pe_g m_0 G_0 hr (pa_cons (pv 1) (pa_cons pe_int (pa_cons pe_int pa_nil))))) (pa_cons pe_int pa_nil))))), ?_⟩
  obtain ⟨a, b, rfl, ha, hb, q⟩ := h
  exact ⟨_, rfl, _, _, _, rfl, ⟨by decide, by decide, by decide⟩, _, rfl, _, _, _, rfl, ⟨by decide, by decide, by decide⟩, _, _, rfl, rfl, fieldZ_nn _ _ _, _, _, rfl, ⟨by decide, by decide⟩, qe (congrArg V.int z_shift_right_32) q⟩
theorem sc_W : FnScope ["a", "b"] ["a", "b"] (defScope (top 22)) := ⟨rfl, rfl, rfl, by decide +kernel, rfl, by decide +kernel, by decide +kernel⟩
theorem ok_i {f_1h f_4 f_6 f_0 : Addr} (D : Def K "shift_right_signed_32" "shift_right_signed_32" (top 22) ["a", "b"] f_1h) (m_4 : mg "wrap" = some (.ref f_4)) (G_4 : Ok P w K mg base 1 f_4 ["number"] spWrap) (m_5 : mg "signed" = some (.ref f_6)) (G_5 : Ok P w K mg base 2 f_6 ["number", "width"] spSigned) (m_0 : mg "field" = some (.ref f_0)) (G_0 : Ok P w K mg base 1 f_0 ["word", "low", "width"] spField) : Ok P w K mg base 3 f_1h ["a", "b"] (spAlu .sraw) := by
  refine D.ok sc_W spAlu_len fun cdv A outer s H vs Q E hr h => ?_
  refine ⟨_, (pss_one (ps_ret (pe_g m_4 G_4 hr (pa_cons (pe_op op_shr (pe_g m_5 G_5 hr (pa_cons (pv 0) (pa_cons pe_int pa_nil))) (pe_g m_0 G_0 hr (pa_cons (pv 1) (pa_cons pe_int (pa_cons pe_int pa_nil))))) pa_nil)))), ?_⟩
  obtain ⟨a, b, rfl, ha, hb, q⟩ := h
  exact ⟨_, rfl, _, _, rfl, ⟨by decide, by decide⟩, _, rfl, _, _, _, rfl, ⟨by decide, by decide, by decide⟩, _, _, rfl, rfl, fieldZ_nn _ _ _, _, rfl, trivial, qe (congrArg V.int z_shift_right_signed_32) q⟩
theorem sc_X : FnScope ["a", "b"] ["a", "b"] (defScope (top 23)) := ⟨rfl, rfl, rfl, by decide +kernel, rfl, by decide +kernel, by decide +kernel⟩
theorem ok_j {f_1i f_4 : Addr} (D : Def K "multiply" "multiply" (top 23) ["a", "b"] f_1i) (m_4 : mg "wrap" = some (.ref f_4)) (G_4 : Ok P w K mg base 1 f_4 ["number"] spWrap) : Ok P w K mg base 2 f_1i ["a", "b"] (spAlu .mul) := by
  refine D.ok sc_X spAlu_len fun cdv A outer s H vs Q E hr h => ?_
  refine ⟨_, (pss_one (ps_ret (pe_g m_4 G_4 hr (pa_cons (pe_op op_mul (pv 0) (pv 1)) pa_nil)))), ?_⟩
  obtain ⟨a, b, rfl, ha, hb, q⟩ := h
  exact ⟨_, rfl, _, rfl, _, _, rfl, rfl, cmulL (bN ha), _, rfl, trivial, qe (congrArg V.int z_multiply) q⟩
theorem sc_Y : FnScope ["a", "b"] ["a", "b"] (defScope (top 24)) := ⟨rfl, rfl, rfl, by decide +kernel, rfl, by decide +kernel, by decide +kernel⟩
theorem ok_k {f_1j : Addr} (D : Def K "multiply_high" "multiply_high" (top 24) ["a", "b"] f_1j)  : Ok P w K mg base 1 f_1j ["a", "b"] (spAlu .mulhu) := by
  refine D.ok sc_Y spAlu_len fun cdv A outer s H vs Q E hr h => ?_
  refine ⟨_, (pss_one (ps_ret (pe_op op_shr (pe_op op_mul (pv 0) (pv 1)) pe_int))), ?_⟩
  obtain ⟨a, b, rfl, ha, hb, q⟩ := h
  exact ⟨_, rfl, _, rfl, _, _, rfl, rfl, cmulL (bN ha), _, _, rfl, rfl, show (0 : Int) ≤ 64 by decide, qe (congrArg V.int z_multiply_high) q⟩
theorem sc_Z : FnScope ["a", "b"] ["a", "b"] (defScope (top 25)) := ⟨rfl, rfl, rfl, by decide +kernel, rfl, by decide +kernel, by decide +kernel⟩
theorem ok_l {f_1k f_4 f_6 : Addr} (D : Def K "multiply_high_signed" "multiply_high_signed" (top 25) ["a", "b"] f_1k) (m_4 : mg "wrap" = some (.ref f_4)) (G_4 : Ok P w K mg base 1 f_4 ["number"] spWrap) (m_5 : mg "signed" = some (.ref f_6)) (G_5 : Ok P w K mg base 2 f_6 ["number", "width"] spSigned) : Ok P w K mg base 3 f_1k ["a", "b"] (spAlu .mulh) := by
  refine D.ok sc_Z spAlu_len fun cdv A outer s H vs Q E hr h => ?_
  refine ⟨_, (pss_one (ps_ret (pe_g m_4 G_4 hr (pa_cons (pe_op op_shr (pe_op op_mul (pe_g m_5 G_5 hr (pa_cons (pv 0) (pa_cons pe_int pa_nil))) (pe_g m_5 G_5 hr (pa_cons (pv 1) (pa_cons pe_int pa_nil)))) pe_int) pa_nil)))), ?_⟩
  obtain ⟨a, b, rfl, ha, hb, q⟩ := h
  exact ⟨_, rfl, _, _, rfl, ⟨by decide, by decide⟩, _, rfl, _, _, rfl, ⟨by decide, by decide⟩, _, _, rfl, rfl, cmulL b64, _, _, rfl, rfl, show (0 : Int) ≤ 64 by decide, _, rfl, trivial, qe (congrArg V.int z_multiply_high_signed) q⟩
theorem sc_10 : FnScope ["a", "b"] ["a", "b"] (defScope (top 26)) := ⟨rfl, rfl, rfl, by decide +kernel, rfl, by decide +kernel, by decide +kernel⟩
theorem ok_m {f_1l f_4 f_6 : Addr} (D : Def K "multiply_high_mixed" "multiply_high_mixed" (top 26) ["a", "b"] f_1l) (m_4 : mg "wrap" = some (.ref f_4)) (G_4 : Ok P w K mg base 1 f_4 ["number"] spWrap) (m_5 : mg "signed" = some (.ref f_6)) (G_5 : Ok P w K mg base 2 f_6 ["number", "width"] spSigned) : Ok P w K mg base 3 f_1l ["a", "b"] (spAlu .mulhsu) := by
  refine D.ok sc_10 spAlu_len fun cdv A outer s H vs Q E hr h => ?_
  refine ⟨_, (pss_one (ps_ret (pe_g m_4 G_4 hr (pa_cons (pe_op op_shr (pe_op op_mul (pe_g m_5 G_5 hr (pa_cons (pv 0) (pa_cons pe_int pa_nil))) (pv 1)) pe_int) pa_nil)))), ?_⟩
  obtain ⟨a, b, rfl, ha, hb, q⟩ := h
  exact ⟨_, rfl, _, _, rfl, ⟨by decide, by decide⟩, _, rfl, _, _, rfl, rfl, cmulL b64, _, _, rfl, rfl, show (0 : Int) ≤ 64 by decide, _, rfl, trivial, qe (congrArg V.int z_multiply_high_mixed) q⟩
theorem sc_11 : FnScope ["a", "b"] ["a", "b"] (defScope (top 27)) := ⟨rfl, rfl, rfl, by decide +kernel, rfl, by decide +kernel, by decide +kernel⟩
theorem ok_n {f_1m f_1 : Addr} (D : Def K "multiply_32" "multiply_32" (top 27) ["a", "b"] f_1m) (m_1 : mg "extend" = some (.ref f_1)) (G_1 : Ok P w K mg base 3 f_1 ["number", "width"] spExtend) : Ok P w K mg base 4 f_1m ["a", "b"] (spAlu .mulw) := by
  refine D.ok sc_11 spAlu_len fun cdv A outer s H vs Q E hr h => ?_
  refine ⟨_, (pss_one (ps_ret (pe_g m_1 G_1 hr (pa_cons (pe_op op_mul (pv 0) (pv 1)) (pa_cons pe_int pa_nil))))), ?_⟩
  obtain ⟨a, b, rfl, ha, hb, q⟩ := h
  exact ⟨_, rfl, _, rfl, _, _, rfl, rfl, cmulL (bN ha), _, _, rfl, ⟨by decide, by decide⟩, qe (congrArg V.int z_multiply_32) q⟩
theorem sc_i : FnScope ["a", "b", "size"] ["a", "b"] (defScope (top 28)) := ⟨rfl, rfl, rfl, by decide +kernel, rfl, by decide +kernel, by decide +kernel⟩
theorem ok_o {f_d : Addr} (D : Def K "quotient" "quotient" (top 28) ["a", "b"] f_d) (n_2 : mg "abs" = none) : Ok P w K mg base 1 f_d ["a", "b"] spQuot := by
  refine D.ok sc_i sp2_len fun cdv A outer s H vs Q E hr h => ?_
  refine ⟨_, (pss_cons (ps_if (pt_cmpR op_eq (pv 1) pe_int (nomark _)) (pss_one (ps_ret (pe_un un_neg pe_int))) pss_nil) (pss_cons (ps_set (i := 2) sc_i.nd rfl (Or.inl rfl) (pe_op op_fdivB (pe_callB call_abs rfl n_2 boot_abs (pa_cons (pv 0) pa_nil)) (pe_callB call_abs rfl n_2 boot_abs (pa_cons (pv 1) pa_nil)))) (pss_cons (ps_if (pt_cmpR op_ne (pe_cmpR op_lt (pv 0) pe_int (nomark _)) (pe_cmpR op_lt (pv 1) pe_int (nomark _)) (nomark _)) (pss_one (ps_ret (pe_un un_neg (pv 2)))) pss_nil) (pss_one (ps_ret (pv 2)))))), ?_⟩
  obtain ⟨a, b, rfl, ⟨h1, h2⟩, q⟩ := h
  refine ⟨_, rfl, rfl, _, rfl, ?_⟩
  refine ite2 (fun e => ?_) fun e => ?_
  · have e' : b = 0 := V.int.inj (of_decide_eq_true e)
    exact ⟨_, rfl, qe (congrArg V.int (by rw [quotZ, if_pos e'])) q⟩
  · have e' : ¬ b = 0 := fun z => e (decide_eq_true (congrArg V.int z))
    refine ⟨_, rfl, _, rfl, _, rfl, _, rfl, _, _, rfl, rfl, ⟨by split <;> omega, by split <;> omega⟩, _, rfl, _, _, rfl, rfl, _, rfl, _, _, rfl, rfl, rfl, _, rfl, ?_⟩
    have key := quot_key a b e'
    refine ite2 (fun e2 => ?_) fun e2 => ?_
    · have e3 : ¬ (decide (a < 0) = decide (b < 0)) := fun z => by simp [z] at e2
      rw [if_neg e3] at key
      exact ⟨_, rfl, _, rfl, qe (congrArg V.int key) q⟩
    · have e3 : decide (a < 0) = decide (b < 0) := by simpa using e2
      rw [if_pos e3] at key
      exact ⟨_, rfl, qe (congrArg V.int key) q⟩
theorem sc_12 : FnScope ["a", "b"] ["a", "b"] (defScope (top 29)) := ⟨rfl, rfl, rfl, by decide +kernel, rfl, by decide +kernel, by decide +kernel⟩
theorem ok_p {f_h f_d : Addr} (D : Def K "remainder" "remainder" (top 29) ["a", "b"] f_h) (m_i : mg "quotient" = some (.ref f_d)) (G_h : Ok P w K mg base 1 f_d ["a", "b"] spQuot) : Ok P w K mg base 2 f_h ["a", "b"] spRem := by
  refine D.ok sc_12 sp2_len fun cdv A outer s H vs Q E hr h => ?_
  refine ⟨_, (pss_one (ps_ret (pe_op op_sub (pv 0) (pe_op op_mul (pv 1) (pe_g m_i G_h hr (pa_cons (pv 0) (pa_cons (pv 1) pa_nil))))))), ?_⟩
  obtain ⟨a, b, rfl, ⟨h1, h2⟩, q⟩ := h
  exact ⟨_, rfl, _, rfl, _, rfl, _, rfl, _, _, rfl, ⟨h1, h2⟩, _, _, rfl, rfl, cmulL h2, _, _, rfl, rfl, q⟩
theorem sc_13 : FnScope ["a", "b"] ["a", "b"] (defScope (top 30)) := ⟨rfl, rfl, rfl, by decide +kernel, rfl, by decide +kernel, by decide +kernel⟩
theorem ok_q {f_1n f_4 f_d : Addr} (D : Def K "divide" "divide" (top 30) ["a", "b"] f_1n) (m_4 : mg "wrap" = some (.ref f_4)) (G_4 : Ok P w K mg base 1 f_4 ["number"] spWrap) (m_i : mg "quotient" = some (.ref f_d)) (G_h : Ok P w K mg base 1 f_d ["a", "b"] spQuot) : Ok P w K mg base 2 f_1n ["a", "b"] (spAlu .divu) := by
  refine D.ok sc_13 spAlu_len fun cdv A outer s H vs Q E hr h => ?_
  refine ⟨_, (pss_one (ps_ret (pe_g m_4 G_4 hr (pa_cons (pe_g m_i G_h hr (pa_cons (pv 0) (pa_cons (pv 1) pa_nil))) pa_nil)))), ?_⟩
  obtain ⟨a, b, rfl, ha, hb, q⟩ := h
  exact ⟨_, rfl, _, rfl, _, _, rfl, ⟨bN ha, bN hb⟩, _, rfl, trivial, qe (congrArg V.int (z_divide ha)) q⟩
theorem sc_14 : FnScope ["a", "b"] ["a", "b"] (defScope (top 31)) := ⟨rfl, rfl, rfl, by decide +kernel, rfl, by decide +kernel, by decide +kernel⟩
theorem ok_r {f_1o f_4 f_d f_6 : Addr} (D : Def K "divide_signed" "divide_signed" (top 31) ["a", "b"] f_1o) (m_4 : mg "wrap" = some (.ref f_4)) (G_4 : Ok P w K mg base 1 f_4 ["number"] spWrap) (m_i : mg "quotient" = some (.ref f_d)) (G_h : Ok P w K mg base 1 f_d ["a", "b"] spQuot) (m_5 : mg "signed" = some (.ref f_6)) (G_5 : Ok P w K mg base 2 f_6 ["number", "width"] spSigned) : Ok P w K mg base 3 f_1o ["a", "b"] (spAlu .div) := by
  refine D.ok sc_14 spAlu_len fun cdv A outer s H vs Q E hr h => ?_
  refine ⟨_, (pss_one (ps_ret (pe_g m_4 G_4 hr (pa_cons (pe_g m_i G_h hr (pa_cons (pe_g m_5 G_5 hr (pa_cons (pv 0) (pa_cons pe_int pa_nil))) (pa_cons (pe_g m_5 G_5 hr (pa_cons (pv 1) (pa_cons pe_int pa_nil))) pa_nil))) pa_nil)))), ?_⟩
  obtain ⟨a, b, rfl, ha, hb, q⟩ := h
  exact ⟨_, rfl, _, _, rfl, ⟨by decide, by decide⟩, _, rfl, _, _, rfl, ⟨by decide, by decide⟩, _, _, rfl, ⟨b64, b64⟩, _, rfl, trivial, qe (congrArg V.int z_divide_signed) q⟩
theorem sc_15 : FnScope ["a", "b"] ["a", "b"] (defScope (top 32)) := ⟨rfl, rfl, rfl, by decide +kernel, rfl, by decide +kernel, by decide +kernel⟩
theorem ok_s {f_1p f_4 f_h f_6 : Addr} (D : Def K "remainder_signed" "remainder_signed" (top 32) ["a", "b"] f_1p) (m_4 : mg "wrap" = some (.ref f_4)) (G_4 : Ok P w K mg base 1 f_4 ["number"] spWrap) (m_q : mg "remainder" = some (.ref f_h)) (G_m : Ok P w K mg base 2 f_h ["a", "b"] spRem) (m_5 : mg "signed" = some (.ref f_6)) (G_5 : Ok P w K mg base 2 f_6 ["number", "width"] spSigned) : Ok P w K mg base 3 f_1p ["a", "b"] (spAlu .rem) := by
  refine D.ok sc_15 spAlu_len fun cdv A outer s H vs Q E hr h => ?_
  refine ⟨_, (pss_one (ps_ret (pe_g m_4 G_4 hr (pa_cons (pe_g m_q G_m hr (pa_cons (pe_g m_5 G_5 hr (pa_cons (pv 0) (pa_cons pe_int pa_nil))) (pa_cons (pe_g m_5 G_5 hr (pa_cons (pv 1) (pa_cons pe_int pa_nil))) pa_nil))) pa_nil)))), ?_⟩
  obtain ⟨a, b, rfl, ha, hb, q⟩ := h
  exact ⟨_, rfl, _, _, rfl, ⟨by decide, by decide⟩, _, rfl, _, _, rfl, ⟨by decide, by decide⟩, _, _, rfl, ⟨b64, b64⟩, _, rfl, trivial, qe (congrArg V.int z_remainder_signed) q⟩
theorem sc_16 : FnScope ["a", "b"] ["a", "b"] (defScope (top 33)) := ⟨rfl, rfl, rfl, by decide +kernel, rfl, by decide +kernel, by decide +kernel⟩
theorem ok_t {f_1q f_1 f_d f_0 : Addr} (D : Def K "divide_32" "divide_32" (top 33) ["a", "b"] f_1q) (m_1 : mg "extend" = some (.ref f_1)) (G_1 : Ok P w K mg base 3 f_1 ["number", "width"] spExtend) (m_i : mg "quotient" = some (.ref f_d)) (G_h : Ok P w K mg base 1 f_d ["a", "b"] spQuot) (m_0 : mg "field" = some (.ref f_0)) (G_0 : Ok P w K mg base 1 f_0 ["word", "low", "width"] spField) : Ok P w K mg base 4 f_1q ["a", "b"] (spAlu .divuw) := by
  refine D.ok sc_16 spAlu_len fun cdv A outer s H vs Q E hr h => ?_
  refine ⟨_, (pss_one (ps_ret (pe_g m_1 G_1 hr (pa_cons (pe_g m_i G_h hr (pa_cons (pe_g m_0 G_0 hr (pa_cons (pv 0) (pa_cons pe_int (pa_cons pe_int pa_nil)))) (pa_cons (pe_g m_0 G_0 hr (pa_cons (pv 1) (pa_cons pe_int (pa_cons pe_int pa_nil)))) pa_nil))) (pa_cons pe_int pa_nil))))), ?_⟩
  obtain ⟨a, b, rfl, ha, hb, q⟩ := h
  exact ⟨_, rfl, _, _, _, rfl, ⟨by decide, by decide, by decide⟩, _, rfl, _, _, _, rfl, ⟨by decide, by decide, by decide⟩, _, _, rfl, ⟨bF, bF⟩, _, _, rfl, ⟨by decide, by decide⟩, qe (congrArg V.int z_divide_32) q⟩
theorem sc_17 : FnScope ["a", "b"] ["a", "b"] (defScope (top 34)) := ⟨rfl, rfl, rfl, by decide +kernel, rfl, by decide +kernel, by decide +kernel⟩
theorem ok_u {f_1r f_1 f_d f_6 : Addr} (D : Def K "divide_signed_32" "divide_signed_32" (top 34) ["a", "b"] f_1r) (m_1 : mg "extend" = some (.ref f_1)) (G_1 : Ok P w K mg base 3 f_1 ["number", "width"] spExtend) (m_i : mg "quotient" = some (.ref f_d)) (G_h : Ok P w K mg base 1 f_d ["a", "b"] spQuot) (m_5 : mg "signed" = some (.ref f_6)) (G_5 : Ok P w K mg base 2 f_6 ["number", "width"] spSigned) : Ok P w K mg base 4 f_1r ["a", "b"] (spAlu .divw) := by
  refine D.ok sc_17 spAlu_len fun cdv A outer s H vs Q E hr h => ?_
  refine ⟨_, (pss_one (ps_ret (pe_g m_1 G_1 hr (pa_cons (pe_g m_i G_h hr (pa_cons (pe_g m_5 G_5 hr (pa_cons (pv 0) (pa_cons pe_int pa_nil))) (pa_cons (pe_g m_5 G_5 hr (pa_cons (pv 1) (pa_cons pe_int pa_nil))) pa_nil))) (pa_cons pe_int pa_nil))))), ?_⟩
  obtain ⟨a, b, rfl, ha, hb, q⟩ := h
  exact ⟨_, rfl, _, _, rfl, ⟨by decide, by decide⟩, _, rfl, _, _, rfl, ⟨by decide, by decide⟩, _, _, rfl, ⟨b32, b32⟩, _, _, rfl, ⟨by decide, by decide⟩, qe (congrArg V.int z_divide_signed_32) q⟩
theorem sc_18 : FnScope ["a", "b"] ["a", "b"] (defScope (top 35)) := ⟨rfl, rfl, rfl, by decide +kernel, rfl, by decide +kernel, by decide +kernel⟩
theorem ok_v {f_1s f_1 f_h f_0 : Addr} (D : Def K "remainder_32" "remainder_32" (top 35) ["a", "b"] f_1s) (m_1 : mg "extend" = some (.ref f_1)) (G_1 : Ok P w K mg base 3 f_1 ["number", "width"] spExtend) (m_q : mg "remainder" = some (.ref f_h)) (G_m : Ok P w K mg base 2 f_h ["a", "b"] spRem) (m_0 : mg "field" = some (.ref f_0)) (G_0 : Ok P w K mg base 1 f_0 ["word", "low", "width"] spField) : Ok P w K mg base 4 f_1s ["a", "b"] (spAlu .remuw) := by
  refine D.ok sc_18 spAlu_len fun cdv A outer s H vs Q E hr h => ?_
  refine ⟨_, (pss_one (ps_ret (pe_g m_1 G_1 hr (pa_cons (pe_g m_q G_m hr (pa_cons (pe_g m_0 G_0 hr (pa_cons (pv 0) (pa_cons pe_int (pa_cons pe_int pa_nil)))) (pa_cons (pe_g m_0 G_0 hr (pa_cons (pv 1) (pa_cons pe_int (pa_cons pe_int pa_nil)))) pa_nil))) (pa_cons pe_int pa_nil))))), ?_⟩
  obtain ⟨a, b, rfl, ha, hb, q⟩ := h
  exact ⟨_, rfl, _, _, _, rfl, ⟨by decide, by decide, by decide⟩, _, rfl, _, _, _, rfl, ⟨by decide, by decide, by decide⟩, _, _, rfl, ⟨bF, bF⟩, _, _, rfl, ⟨by decide, by decide⟩, qe (congrArg V.int z_remainder_32) q⟩
theorem sc_19 : FnScope ["a", "b"] ["a", "b"] (defScope (top 36)) := ⟨rfl, rfl, rfl, by decide +kernel, rfl, by decide +kernel, by decide +kernel⟩
theorem ok_w {f_1t f_1 f_h f_6 : Addr} (D : Def K "remainder_signed_32" "remainder_signed_32" (top 36) ["a", "b"] f_1t) (m_1 : mg "extend" = some (.ref f_1)) (G_1 : Ok P w K mg base 3 f_1 ["number", "width"] spExtend) (m_q : mg "remainder" = some (.ref f_h)) (G_m : Ok P w K mg base 2 f_h ["a", "b"] spRem) (m_5 : mg "signed" = some (.ref f_6)) (G_5 : Ok P w K mg base 2 f_6 ["number", "width"] spSigned) : Ok P w K mg base 4 f_1t ["a", "b"] (spAlu .remw) := by
  refine D.ok sc_19 spAlu_len fun cdv A outer s H vs Q E hr h => ?_
  refine ⟨_, (pss_one (ps_ret (pe_g m_1 G_1 hr (pa_cons (pe_g m_q G_m hr (pa_cons (pe_g m_5 G_5 hr (pa_cons (pv 0) (pa_cons pe_int pa_nil))) (pa_cons (pe_g m_5 G_5 hr (pa_cons (pv 1) (pa_cons pe_int pa_nil))) pa_nil))) (pa_cons pe_int pa_nil))))), ?_⟩
  obtain ⟨a, b, rfl, ha, hb, q⟩ := h
  exact ⟨_, rfl, _, _, rfl, ⟨by decide, by decide⟩, _, rfl, _, _, rfl, ⟨by decide, by decide⟩, _, _, rfl, ⟨b32, b32⟩, _, _, rfl, ⟨by decide, by decide⟩, qe (congrArg V.int z_remainder_signed_32) q⟩
end
end Sp8
end
section
namespace Sp8
open PySem PySem.Spec PyProof.Rows L2
open Sg08 (Alu WORD Instr)
def Pcs (K : PySem.W.Frag) (a : Addr) (ps : List (Nat × Nat × Nat)) : Prop :=
  ∃ as : List Addr, (∀ H, SqT K H a (as.map V.ref)) ∧ Paired (fun (b : Addr) (p : Nat × Nat × Nat) => ∀ H, SqT K H b [.int p.1, .int p.2.1, .int p.2.2]) as ps
def spGather (K : PySem.W.Frag) : Sp := fun vs H Q _ => ∃ (n : Nat) (a : Addr) (ps : List (Nat × Nat × Nat)), vs = [.int n, .ref a] ∧ Pcs K a ps ∧ (∀ p ∈ ps, p.2.1 ≤ 32 ∧ p.2.2 ≤ 32) ∧ Q (.int (gatN n ps)) H
theorem spGather_len {K : PySem.W.Frag} {x y : Str} : ∀ vs H Q E, spGather K vs H Q E → vs.length = [x, y].length := fun vs H Q E h => by obtain ⟨_, _, _, rfl, _⟩ := h; rfl
theorem gatN_snoc (n : Nat) (l : List (Nat × Nat × Nat)) (p : Nat × Nat × Nat) : gatN n (l ++ [p]) = gatN n l ||| (n / 2 ^ p.1 % 2 ^ p.2.1 * 2 ^ p.2.2) := by
  unfold gatN; rw [List.foldl_append]; rfl
theorem gat_turn (n : Nat) (l : List (Nat × Nat × Nat)) (p : Nat × Nat × Nat) :
    Builtin.bitOr ((gatN n l : Nat) : Int) (fieldZ (n : Int) (p.1 : Int) (p.2.1 : Int) * 2 ^ ((p.2.2 : Nat) : Int).toNat) = ((gatN n (l ++ [p]) : Nat) : Int) := by
  rw [fieldZ_nat, Int.toNat_natCast, ← pow_cast, ← Int.natCast_mul, or_nat, gatN_snoc]
theorem paired_get {α β : Type} {R : α → β → Prop} : ∀ {l : List α} {m : List β} {i : Nat} {x : α}, Paired R l m → l[i]? = some x → ∃ y, m[i]? = some y ∧ R x y
  | _, _, _, _, .nil, e => by simp at e
  | _, _, 0, _, .cons r _, e => by simp at e; subst e; exact ⟨_, rfl, r⟩
  | _, _, i + 1, x, .cons _ t, e => by
    obtain ⟨y, h1, h2⟩ := paired_get (i := i) (x := x) t (by simpa using e)
    exact ⟨y, by simpa using h1, h2⟩
theorem paired_len {α β : Type} {R : α → β → Prop} {l : List α} {m : List β} (h : Paired R l m) : l.length = m.length := Paired.length h
theorem take_snoc {α : Type} {l : List α} {i : Nat} {x : α} (h : l[i]? = some x) : l.take (i + 1) = l.take i ++ [x] := by
  rw [List.take_add_one, h]; rfl
theorem at3a {x y z : V} : atI [x, y, z] 0 = some x := rfl
theorem at3b {x y z : V} : atI [x, y, z] 1 = some y := rfl
theorem at3c {x y z : V} : atI [x, y, z] 2 = some z := rfl
theorem cpowF (n l k p : Nat) (h1 : k ≤ 32) (h2 : p ≤ 32) : CPow (fieldZ (n : Int) (l : Int) (k : Int)) ((p : Nat) : Int) := by
  refine ⟨by omega, by omega, ?_⟩
  rw [fieldZ_nat]
  have h := md_lt (n / 2 ^ l) k
  have : 2 ^ k ≤ 2 ^ 32 := Nat.pow_le_pow_right (by decide) h1
  omega
structure Ins where
  form : Str
  name : Str
  target : Int
  first : Int
  second : Int
  imm : Int
def insF (i : Ins) : List (Str × V) := [("form", .str i.form), ("name", .str i.name), ("target", .int i.target), ("first", .int i.first), ("second", .int i.second), ("immediate", .int i.imm)]
theorem nk1 : ¬ ("form" : Str) = "name" := by decide +kernel
theorem nk2 : ¬ ("form" : Str) = "target" := by decide +kernel
theorem nk3 : ¬ ("form" : Str) = "first" := by decide +kernel
theorem nk4 : ¬ ("form" : Str) = "second" := by decide +kernel
theorem nk5 : ¬ ("form" : Str) = "immediate" := by decide +kernel
theorem nk6 : ¬ ("name" : Str) = "target" := by decide +kernel
theorem nk7 : ¬ ("name" : Str) = "first" := by decide +kernel
theorem nk8 : ¬ ("name" : Str) = "second" := by decide +kernel
theorem nk9 : ¬ ("name" : Str) = "immediate" := by decide +kernel
theorem nk10 : ¬ ("target" : Str) = "first" := by decide +kernel
theorem nk11 : ¬ ("target" : Str) = "second" := by decide +kernel
theorem nk12 : ¬ ("target" : Str) = "immediate" := by decide +kernel
theorem nk13 : ¬ ("first" : Str) = "second" := by decide +kernel
theorem nk14 : ¬ ("first" : Str) = "immediate" := by decide +kernel
theorem nk15 : ¬ ("second" : Str) = "immediate" := by decide +kernel
theorem insF_put (f n : Str) (t a b i : Int) : putF "immediate" (.int i) (putF "second" (.int b) (putF "first" (.int a) (putF "target" (.int t) (putF "name" (.str n) (putF "form" (.str f) []))))) = insF ⟨f, n, t, a, b, i⟩ := by
  simp only [putF, insF, if_neg nk1, if_neg nk2, if_neg nk3, if_neg nk4, if_neg nk5, if_neg nk6, if_neg nk7, if_neg nk8, if_neg nk9, if_neg nk10, if_neg nk11, if_neg nk12, if_neg nk13, if_neg nk14, if_neg nk15]
theorem look_hit {x : Str} {v : V} {r : List (Str × V)} : List.lookup x ((x, v) :: r) = some v := by rw [List.lookup_cons, beq_self_eq_true]
theorem look_miss {x y : Str} {v : V} {r : List (Str × V)} (h : ¬ x = y) : List.lookup x ((y, v) :: r) = List.lookup x r := by rw [List.lookup_cons, beq_eq_false_iff_ne.mpr h]
theorem insF_form (i : Ins) : (insF i).lookup ("form" : Str) = some (.str i.form) := look_hit
theorem insF_name (i : Ins) : (insF i).lookup ("name" : Str) = some (.str i.name) := by unfold insF; rw [look_miss (fun e => nk1 e.symm)]; exact look_hit
theorem insF_target (i : Ins) : (insF i).lookup ("target" : Str) = some (.int i.target) := by unfold insF; rw [look_miss (fun e => nk2 e.symm), look_miss (fun e => nk6 e.symm)]; exact look_hit
theorem insF_first (i : Ins) : (insF i).lookup ("first" : Str) = some (.int i.first) := by unfold insF; rw [look_miss (fun e => nk3 e.symm), look_miss (fun e => nk7 e.symm), look_miss (fun e => nk10 e.symm)]; exact look_hit
theorem insF_second (i : Ins) : (insF i).lookup ("second" : Str) = some (.int i.second) := by
  unfold insF; rw [look_miss (fun e => nk4 e.symm), look_miss (fun e => nk8 e.symm), look_miss (fun e => nk11 e.symm), look_miss (fun e => nk13 e.symm)]; exact look_hit
theorem insF_imm (i : Ins) : (insF i).lookup ("immediate" : Str) = some (.int i.imm) := by
  unfold insF; rw [look_miss (fun e => nk5 e.symm), look_miss (fun e => nk9 e.symm), look_miss (fun e => nk12 e.symm), look_miss (fun e => nk14 e.symm), look_miss (fun e => nk15 e.symm)]; exact look_hit
theorem putF_le {f : Str} {v : V} {fs : List (Str × V)} {n : Nat} (h : fs.length ≤ n) : (putF f v fs).length ≤ n + 1 := Nat.le_trans (length_putF f v fs) (Nat.succ_le_succ h)
structure InsC (K : PySem.W.Frag) (C : Addr) : Prop where
  cl : Cls K C
  n1 : NoAttr K C "form"
  n2 : NoAttr K C "name"
  n3 : NoAttr K C "target"
  n4 : NoAttr K C "first"
  n5 : NoAttr K C "second"
  n6 : NoAttr K C "immediate"
def spInit (C : Addr) : Sp := fun vs H Q _ => ∃ (p dx : Addr) (i : Ins), vs = [.ref p, .str i.form, .str i.name, .int i.target, .int i.first, .int i.second, .int i.imm] ∧ H p = some (.ins C dx []) ∧
  ∀ H' : Hp, H' p = some (.ins C dx (insF i)) → (∀ b o, H b = some o → b ≠ p → H' b = some o) → Q .non H'
theorem spInit_len {C : Addr} {a b c d e f g : Str} : ∀ vs H Q E, spInit C vs H Q E → vs.length = [a, b, c, d, e, f, g].length := fun vs H Q E h => by obtain ⟨_, _, _, rfl, _⟩ := h; rfl
def RetI (C : Addr) (H : Hp) (Q : VK) (i : Ins) : Prop := ∀ (p : Addr) (H' : Hp), H p = none → Same H H' → (∃ dx, H' p = some (.ins C dx (insF i))) → Q (.ref p) H'
theorem mk_ins {C : Addr} {H : Hp} {Q : VK} {E : XK} {i : Ins} (k : RetI C H Q i) : ∀ x dx, H x = none → H dx = none → dx ≠ x →
    spInit C [.ref x, .str i.form, .str i.name, .int i.target, .int i.first, .int i.second, .int i.imm] (upd (upd H dx (.own x)) x (.ins C dx [])) (fun v H2 => v = .non ∧ Q (.ref x) H2) E := fun x dx nx nd ne =>
  ⟨x, dx, i, rfl, upd_same, fun H' e kp => ⟨rfl, k x H' nx (Same.made nx nd kp) ⟨dx, e⟩⟩⟩
theorem RetI.laid {C p : Addr} {H : Hp} {Q : VK} {i : Ins} {o : HO} (k : RetI C H Q i) (hp : H p = none) : RetI C (upd H p o) Q i := fun p' H' n s e =>
  k p' H' (by by_cases q : p' = p
              · rw [q]; exact hp
              · rw [upd_ne q] at n; exact n)
    (fun b u hb => s b u (by rw [upd_ne (ne_of_none hb hp)]; exact hb)) e
def spN (g : Nat → Int) : Sp := fun vs H Q _ => ∃ n : Nat, vs = [.int n] ∧ Q (.int (g n)) H
theorem spN_len {g : Nat → Int} {x : Str} : ∀ vs H Q E, spN g vs H Q E → vs.length = [x].length := fun vs H Q E h => by obtain ⟨_, rfl, _⟩ := h; rfl
def spRd (C : Addr) (pre : Nat → Prop) (g : Nat → Ins) : Sp := fun vs H Q _ => ∃ n : Nat, vs = [.int n] ∧ pre n ∧ RetI C H Q (g n)
theorem spRd_len {C : Addr} {pre : Nat → Prop} {g : Nat → Ins} {x : Str} : ∀ vs H Q E, spRd C pre g vs H Q E → vs.length = [x].length := fun vs H Q E h => by obtain ⟨_, rfl, _⟩ := h; rfl
def spR4 (C : Addr) (g : Str → Int → Int → Int → Ins) : Sp := fun vs H Q _ => ∃ n a b c, vs = [.str n, .int a, .int b, .int c] ∧ RetI C H Q (g n a b c)
theorem spR4_len {C : Addr} {g : Str → Int → Int → Int → Ins} {x y z u : Str} : ∀ vs H Q E, spR4 C g vs H Q E → vs.length = [x, y, z, u].length := fun vs H Q E h => by obtain ⟨_, _, _, _, rfl, _⟩ := h; rfl
def spR3 (C : Addr) (g : Int → Int → Int → Ins) : Sp := fun vs H Q _ => ∃ a b c, vs = [.int a, .int b, .int c] ∧ RetI C H Q (g a b c)
theorem spR3_len {C : Addr} {g : Int → Int → Int → Ins} {x y z : Str} : ∀ vs H Q E, spR3 C g vs H Q E → vs.length = [x, y, z].length := fun vs H Q E h => by obtain ⟨_, _, _, rfl, _⟩ := h; rfl
def spR2 (C : Addr) (g : Int → Int → Ins) : Sp := fun vs H Q _ => ∃ a b, vs = [.int a, .int b] ∧ RetI C H Q (g a b)
theorem spR2_len {C : Addr} {g : Int → Int → Ins} {x y : Str} : ∀ vs H Q E, spR2 C g vs H Q E → vs.length = [x, y].length := fun vs H Q E h => by obtain ⟨_, _, rfl, _⟩ := h; rfl
def spR1 (C : Addr) (g : Str → Ins) : Sp := fun vs H Q _ => ∃ n, vs = [.str n] ∧ RetI C H Q (g n)
theorem spR1_len {C : Addr} {g : Str → Ins} {x : Str} : ∀ vs H Q E, spR1 C g vs H Q E → vs.length = [x].length := fun vs H Q E h => by obtain ⟨_, rfl, _⟩ := h; rfl
def spR0 (C : Addr) (g : Ins) : Sp := fun vs H Q _ => vs = [] ∧ RetI C H Q g
theorem spR0_len {C : Addr} {g : Ins} : ∀ vs H Q E, spR0 C g vs H Q E → vs.length = ([] : List Str).length := fun vs H Q E h => by obtain ⟨rfl, _⟩ := h; rfl
def iReg (n : Str) (t a b : Int) : Ins := ⟨"registers", n, t, a, b, 0⟩
def iImm (n : Str) (t a i : Int) : Ins := ⟨"immediate", n, t, a, 0, i⟩
def iPc (t i : Int) : Ins := ⟨"pc", "auipc", t, 0, 0, i⟩
def iLoad (n : Str) (t a i : Int) : Ins := ⟨"load", n, t, a, 0, i⟩
def iStore (n : Str) (a b i : Int) : Ins := ⟨"store", n, 0, a, b, i⟩
def iBranch (n : Str) (a b i : Int) : Ins := ⟨"branch", n, 0, a, b, i⟩
def iJump (t i : Int) : Ins := ⟨"jump", "jal", t, 0, 0, i⟩
def iJumpTo (t a i : Int) : Ins := ⟨"jump to", "jalr", t, a, 0, i⟩
def iNothing : Ins := ⟨"nothing", "fence", 0, 0, 0, 0⟩
def iStop (n : Str) : Ins := ⟨"stop", n, 0, 0, 0, 0⟩
def aluN : Alu → Str
  | .add => "add" | .sub => "sub" | .sll => "sll" | .slt => "slt" | .sltu => "sltu" | .xor => "xor" | .srl => "srl" | .sra => "sra" | .or => "or" | .and => "and"
  | .addw => "addw" | .subw => "subw" | .sllw => "sllw" | .srlw => "srlw" | .sraw => "sraw" | .mul => "mul" | .mulh => "mulh" | .mulhsu => "mulhsu" | .mulhu => "mulhu"
  | .div => "div" | .divu => "divu" | .rem => "rem" | .remu => "remu" | .mulw => "mulw" | .divw => "divw" | .divuw => "divuw" | .remw => "remw" | .remuw => "remuw"
def brN : Nat → Str
  | 0 => "beq" | 1 => "bne" | 4 => "blt" | 5 => "bge" | 6 => "bltu" | _ => "bgeu"
def ldN : Nat → Str
  | 0 => "lb" | 1 => "lh" | 2 => "lw" | 3 => "ld" | 4 => "lbu" | 5 => "lhu" | _ => "lwu"
def stN : Nat → Str
  | 0 => "sb" | 1 => "sh" | 2 => "sw" | _ => "sd"
def insI : Instr → Ins
  | .imm o rd rs z => iImm (aluN o) rd rs (Sg08.wrap z)
  | .reg o rd a b => iReg (aluN o) rd a b
  | .lui rd z => iImm "add" rd 0 (Sg08.wrap z)
  | .auipc rd z => iPc rd (Sg08.wrap z)
  | .jal rd z => iJump rd (Sg08.wrap z)
  | .jalr rd rs z => iJumpTo rd rs (Sg08.wrap z)
  | .branch k a b z => iBranch (brN k) a b (Sg08.wrap z)
  | .load k rd rs z => iLoad (ldN k) rd rs (Sg08.wrap z)
  | .store k rs b z => iStore (stN k) rs b (Sg08.wrap z)
  | .fence => iNothing
  | .ecall => iStop "ecall"
  | .ebreak => iStop "ebreak"
def insO : Option Instr → Ins
  | some i => insI i
  | none => iStop "reserved"
end Sp8
end
section
namespace Sp8
open PySem PySem.Spec PyProof.Rows L2
open Sg08 (Alu WORD Machine Instr)
section
def kv_1 : List (Key × V) := [(.inl 0, .str "lb"), (.inl 1, .str "lh"), (.inl 2, .str "lw"), (.inl 3, .str "ld"), (.inl 4, .str "lbu"), (.inl 5, .str "lhu"), (.inl 6, .str "lwu")]
def kv_2 : List (Key × V) := [(.inl 0, .str "sb"), (.inl 1, .str "sh"), (.inl 2, .str "sw"), (.inl 3, .str "sd")]
def kv_3 : List (Key × V) := [(.inl 0, .str "beq"), (.inl 1, .str "bne"), (.inl 4, .str "blt"), (.inl 5, .str "bge"), (.inl 6, .str "bltu"), (.inl 7, .str "bgeu")]
def kv_4 : List (Key × V) := [(.inl 0, .str "add"), (.inl 2, .str "slt"), (.inl 3, .str "sltu"), (.inl 4, .str "xor"), (.inl 6, .str "or"), (.inl 7, .str "and")]
def kv_5 : List (List Key × V) := [([.inl 0, .inl 1], .str "sll"), ([.inl 0, .inl 5], .str "srl"), ([.inl 16, .inl 5], .str "sra")]
def kv_6 : List (List Key × V) := [([.inl 0, .inl 1], .str "sllw"), ([.inl 0, .inl 5], .str "srlw"), ([.inl 32, .inl 5], .str "sraw")]
def kv_7 : List (List Key × V) := [([.inl 0, .inl 0], .str "add"), ([.inl 0, .inl 1], .str "sll"), ([.inl 0, .inl 2], .str "slt"), ([.inl 0, .inl 3], .str "sltu"), ([.inl 0, .inl 4], .str "xor"), ([.inl 0, .inl 5], .str "srl"), ([.inl 0, .inl 6], .str "or"), ([.inl 0, .inl 7], .str "and"), ([.inl 32, .inl 0], .str "sub"), ([.inl 32, .inl 5], .str "sra"), ([.inl 1, .inl 0], .str "mul"), ([.inl 1, .inl 1], .str "mulh"), ([.inl 1, .inl 2], .str "mulhsu"), ([.inl 1, .inl 3], .str "mulhu"), ([.inl 1, .inl 4], .str "div"), ([.inl 1, .inl 5], .str "divu"), ([.inl 1, .inl 6], .str "rem"), ([.inl 1, .inl 7], .str "remu")]
def kv_8 : List (List Key × V) := [([.inl 0, .inl 0], .str "addw"), ([.inl 0, .inl 1], .str "sllw"), ([.inl 0, .inl 5], .str "srlw"), ([.inl 32, .inl 0], .str "subw"), ([.inl 32, .inl 5], .str "sraw"), ([.inl 1, .inl 0], .str "mulw"), ([.inl 1, .inl 4], .str "divw"), ([.inl 1, .inl 5], .str "divuw"), ([.inl 1, .inl 6], .str "remw"), ([.inl 1, .inl 7], .str "remuw")]
def kv_9 : List (Key × V) := [(.inl 115, .str "ecall"), (.inl 1048691, .str "ebreak")]
def kv_a : List (List Key × V) := [([.inl 0, .inl 0], .str "sub"), ([.inl 0, .inl 1], .str "xor"), ([.inl 0, .inl 2], .str "or"), ([.inl 0, .inl 3], .str "and"), ([.inl 1, .inl 0], .str "subw"), ([.inl 1, .inl 1], .str "addw")]
def kv_b : List (Key × V) := [(.inr "ecall", .int 1), (.inr "ebreak", .int 2), (.inr "reserved", .int 3)]
def kv_0 : List (Key × V) := [(.inr "lb", .int 1), (.inr "lh", .int 2), (.inr "lw", .int 4), (.inr "ld", .int 8), (.inr "lbu", .int 1), (.inr "lhu", .int 2), (.inr "lwu", .int 4), (.inr "sb", .int 1), (.inr "sh", .int 2), (.inr "sw", .int 4), (.inr "sd", .int 8)]
end
end Sp8
end
section
namespace Sp8
open PySem PySem.Spec PyProof.Rows L2
open Sg08 (Alu WORD Machine Instr)
section
variable {P : Program} {w : World} {K : PySem.W.Frag} {mg : Str → Option Value} {base : Heap}
theorem sc_2 : FnScope ["word", "pieces", "number", "piece"] ["word", "pieces"] (defScope (top 6)) := ⟨rfl, rfl, rfl, by decide +kernel, rfl, by decide +kernel, by decide +kernel⟩
theorem ok_x {f_2 f_0 : Addr} (D : Def K "gather" "gather" (top 6) ["word", "pieces"] f_2) (m_0 : mg "field" = some (.ref f_0)) (G_0 : Ok P w K mg base 1 f_0 ["word", "low", "width"] spField) : Ok P w K mg base 2 f_2 ["word", "pieces"] (spGather K) := by
  refine D.ok sc_2 spGather_len fun cdv A outer s H vs Q E hr h => ?_
  refine ⟨_, (pss_cons (ps_set (i := 2) sc_2.nd rfl (Or.inl rfl) pe_int) (pss_cons (ps_for PassesOwn.never rfl (pi_tup (pv 1)) (pg_name (i := 3) sc_2.nd rfl (Or.inl rfl)) (pss_one (ps_aug (i := 2) sc_2.nd rfl (Or.inl rfl) (pe_op op_shl (pe_g m_0 G_0 hr (pa_cons (pv 0) (pa_cons (pe_ix ix_tup (pv 3) pe_int (fun _ _ => rfl)) (pa_cons (pe_ix ix_tup (pv 3) pe_int (fun _ _ => rfl)) pa_nil)))) (pe_ix ix_tup (pv 3) pe_int (fun _ _ => rfl))) iop_or))) (pss_one (ps_ret (pv 2))))), ?_⟩
  obtain ⟨n, a, ps, rfl, ⟨as, ha, hp⟩, hb, q⟩ := h
  refine ⟨_, rfl, a, rfl, ⟨_, ha H⟩, for_tup (K := K) (a := a) (xs := as.map V.ref) (fun i σ H2 => ∃ v : Option V, σ = [some (.int n), some (.ref a), some (.int ((gatN n (ps.take i) : Nat) : Int)), v] ∧ H2 = H) ⟨none, rfl, rfl⟩ (fun i σ H2 _ ⟨_, _, e⟩ => by rw [e]; exact ha H) ?_ ?_⟩
  · rintro i y σ H2 hi ⟨v, rfl, rfl⟩
    obtain ⟨b, hb', rfl⟩ : ∃ b, as[i]? = some b ∧ y = V.ref b := by
      rw [List.getElem?_map] at hi
      cases e : as[i]? with
      | none => rw [e] at hi; cases hi
      | some b => rw [e] at hi; exact ⟨b, rfl, (Option.some.inj hi).symm⟩
    obtain ⟨p, hpi, hS⟩ := paired_get hp hb'
    obtain ⟨h1, h2⟩ := hb p (List.mem_of_getElem? hpi)
    refine ⟨_, rfl, _, rfl, _, rfl, b, _, _, _, rfl, rfl, hS _, at3a, _, rfl, b, _, _, _, rfl, rfl, hS _, at3b, _, _, _, rfl, ⟨by omega, by omega, by omega⟩, _, rfl, b, _, _, _, rfl, rfl, hS _, at3c, _, _, rfl, rfl, cpowF _ _ _ _ h1 h2, _, _, rfl, rfl, ?_⟩
    exact ⟨some (V.ref b), by rw [take_snoc hpi, ← gat_turn]; rfl, rfl⟩
  · rintro σ H2 ⟨v, rfl, rfl⟩
    refine ⟨_, rfl, ?_⟩
    have e : ps.take (as.map V.ref).length = ps := List.take_of_length_le (by rw [List.length_map, paired_len hp]; exact Nat.le_refl _)
    exact qe (congrArg (fun l => V.int ((gatN n l : Nat) : Int)) e) q
theorem sc_1a : FnScope ["self", "form", "name", "target", "first", "second", "immediate"] ["self", "form", "name", "target", "first", "second", "immediate"] (defScope (inClass (top 41) 0)) := ⟨rfl, rfl, rfl, by decide +kernel, rfl, by decide +kernel, by decide +kernel⟩
theorem ok_y {f_me C_0 : Addr} (D : Def K "__init__" "Instruction.__init__" (inClass (top 41) 0) ["self", "form", "name", "target", "first", "second", "immediate"] f_me)  (T : InsC K C_0) : Ok P w K mg base 1 f_me ["self", "form", "name", "target", "first", "second", "immediate"] (spInit C_0) := by
  refine D.ok sc_1a spInit_len fun cdv A outer s H vs Q E hr h => ?_
  refine ⟨_, (pss_cons (ps_fld (pv 0) (pv 1) rfl) (pss_cons (ps_fld (pv 0) (pv 2) rfl) (pss_cons (ps_fld (pv 0) (pv 3) rfl) (pss_cons (ps_fld (pv 0) (pv 4) rfl) (pss_cons (ps_fld (pv 0) (pv 5) rfl) (pss_one (ps_fld (pv 0) (pv 6) rfl))))))), ?_⟩
  obtain ⟨p, dx, i, rfl, hp, k⟩ := h
  have l0 : ([] : List (Str × V)).length ≤ 0 := Nat.le_refl _
  refine ⟨_, rfl, _, rfl, p, _, dx, [], rfl, hp, T.cl, T.n1, (by show 0 < 1000; decide), _, rfl, _, rfl, p, _, dx, _, rfl, upd_same, T.cl, T.n2, Nat.lt_of_le_of_lt (putF_le l0) (by decide), _, rfl, _, rfl, p, _, dx, _, rfl, upd_same, T.cl, T.n3, Nat.lt_of_le_of_lt (putF_le (putF_le l0)) (by decide),
    _, rfl, _, rfl, p, _, dx, _, rfl, upd_same, T.cl, T.n4, Nat.lt_of_le_of_lt (putF_le (putF_le (putF_le l0))) (by decide), _, rfl, _, rfl, p, _, dx, _, rfl, upd_same, T.cl, T.n5, Nat.lt_of_le_of_lt (putF_le (putF_le (putF_le (putF_le l0)))) (by decide),
    _, rfl, _, rfl, p, _, dx, _, rfl, upd_same, T.cl, T.n6, Nat.lt_of_le_of_lt (putF_le (putF_le (putF_le (putF_le (putF_le l0))))) (by decide), ?_⟩
  refine k _ (Eq.trans upd_same (congrArg (fun q => some (HO.ins C_0 dx q)) (insF_put _ _ _ _ _ _))) fun b o e hb => ?_
  rw [upd_ne hb, upd_ne hb, upd_ne hb, upd_ne hb, upd_ne hb, upd_ne hb]
  exact e
theorem sc_1b : FnScope ["name", "target", "first", "second"] ["name", "target", "first", "second"] (defScope (top 42)) := ⟨rfl, rfl, rfl, by decide +kernel, rfl, by decide +kernel, by decide +kernel⟩
theorem ok_z {f_e C_0 : Addr} (D : Def K "of_registers" "of_registers" (top 42) ["name", "target", "first", "second"] f_e) (m_b : mg "Instruction" = some (.ref C_0)) (G_a : OkC P w K mg base 1 C_0 ["self", "form", "name", "target", "first", "second", "immediate"] (spInit C_0)) : Ok P w K mg base 3 f_e ["name", "target", "first", "second"] (spR4 C_0 iReg) := by
  refine D.ok sc_1b spR4_len fun cdv A outer s H vs Q E hr h => ?_
  refine ⟨_, (pss_one (ps_ret (pe_c m_b G_a hr (pa_cons pe_str (pa_cons (pv 0) (pa_cons (pv 1) (pa_cons (pv 2) (pa_cons (pv 3) (pa_cons pe_int pa_nil))))))))), ?_⟩
  obtain ⟨n, a, b, c, rfl, q⟩ := h
  exact ⟨_, rfl, _, rfl, _, rfl, _, rfl, mk_ins (i := iReg n a b c) q⟩
theorem sc_1c : FnScope ["name", "target", "first", "immediate"] ["name", "target", "first", "immediate"] (defScope (top 43)) := ⟨rfl, rfl, rfl, by decide +kernel, rfl, by decide +kernel, by decide +kernel⟩
theorem ok_A {f_5 C_0 : Addr} (D : Def K "of_immediate" "of_immediate" (top 43) ["name", "target", "first", "immediate"] f_5) (m_b : mg "Instruction" = some (.ref C_0)) (G_a : OkC P w K mg base 1 C_0 ["self", "form", "name", "target", "first", "second", "immediate"] (spInit C_0)) : Ok P w K mg base 3 f_5 ["name", "target", "first", "immediate"] (spR4 C_0 iImm) := by
  refine D.ok sc_1c spR4_len fun cdv A outer s H vs Q E hr h => ?_
  refine ⟨_, (pss_one (ps_ret (pe_c m_b G_a hr (pa_cons pe_str (pa_cons (pv 0) (pa_cons (pv 1) (pa_cons (pv 2) (pa_cons pe_int (pa_cons (pv 3) pa_nil))))))))), ?_⟩
  obtain ⟨n, a, b, c, rfl, q⟩ := h
  exact ⟨_, rfl, _, rfl, _, rfl, _, rfl, mk_ins (i := iImm n a b c) q⟩
theorem sc_1d : FnScope ["target", "immediate"] ["target", "immediate"] (defScope (top 44)) := ⟨rfl, rfl, rfl, by decide +kernel, rfl, by decide +kernel, by decide +kernel⟩
theorem ok_B {f_1C C_0 : Addr} (D : Def K "of_pc" "of_pc" (top 44) ["target", "immediate"] f_1C) (m_b : mg "Instruction" = some (.ref C_0)) (G_a : OkC P w K mg base 1 C_0 ["self", "form", "name", "target", "first", "second", "immediate"] (spInit C_0)) : Ok P w K mg base 3 f_1C ["target", "immediate"] (spR2 C_0 iPc) := by
  refine D.ok sc_1d spR2_len fun cdv A outer s H vs Q E hr h => ?_
  refine ⟨_, (pss_one (ps_ret (pe_c m_b G_a hr (pa_cons pe_str (pa_cons pe_str (pa_cons (pv 0) (pa_cons pe_int (pa_cons pe_int (pa_cons (pv 1) pa_nil))))))))), ?_⟩
  obtain ⟨a, b, rfl, q⟩ := h
  exact ⟨_, rfl, _, rfl, mk_ins (i := iPc a b) q⟩
theorem sc_1e : FnScope ["name", "target", "first", "immediate"] ["name", "target", "first", "immediate"] (defScope (top 45)) := ⟨rfl, rfl, rfl, by decide +kernel, rfl, by decide +kernel, by decide +kernel⟩
theorem ok_C {f_f C_0 : Addr} (D : Def K "of_load" "of_load" (top 45) ["name", "target", "first", "immediate"] f_f) (m_b : mg "Instruction" = some (.ref C_0)) (G_a : OkC P w K mg base 1 C_0 ["self", "form", "name", "target", "first", "second", "immediate"] (spInit C_0)) : Ok P w K mg base 3 f_f ["name", "target", "first", "immediate"] (spR4 C_0 iLoad) := by
  refine D.ok sc_1e spR4_len fun cdv A outer s H vs Q E hr h => ?_
  refine ⟨_, (pss_one (ps_ret (pe_c m_b G_a hr (pa_cons pe_str (pa_cons (pv 0) (pa_cons (pv 1) (pa_cons (pv 2) (pa_cons pe_int (pa_cons (pv 3) pa_nil))))))))), ?_⟩
  obtain ⟨n, a, b, c, rfl, q⟩ := h
  exact ⟨_, rfl, _, rfl, _, rfl, _, rfl, mk_ins (i := iLoad n a b c) q⟩
theorem sc_1f : FnScope ["name", "first", "second", "immediate"] ["name", "first", "second", "immediate"] (defScope (top 46)) := ⟨rfl, rfl, rfl, by decide +kernel, rfl, by decide +kernel, by decide +kernel⟩
theorem ok_D {f_g C_0 : Addr} (D : Def K "of_store" "of_store" (top 46) ["name", "first", "second", "immediate"] f_g) (m_b : mg "Instruction" = some (.ref C_0)) (G_a : OkC P w K mg base 1 C_0 ["self", "form", "name", "target", "first", "second", "immediate"] (spInit C_0)) : Ok P w K mg base 3 f_g ["name", "first", "second", "immediate"] (spR4 C_0 iStore) := by
  refine D.ok sc_1f spR4_len fun cdv A outer s H vs Q E hr h => ?_
  refine ⟨_, (pss_one (ps_ret (pe_c m_b G_a hr (pa_cons pe_str (pa_cons (pv 0) (pa_cons pe_int (pa_cons (pv 1) (pa_cons (pv 2) (pa_cons (pv 3) pa_nil))))))))), ?_⟩
  obtain ⟨n, a, b, c, rfl, q⟩ := h
  exact ⟨_, rfl, _, rfl, _, rfl, _, rfl, mk_ins (i := iStore n a b c) q⟩
theorem sc_1g : FnScope ["name", "first", "second", "immediate"] ["name", "first", "second", "immediate"] (defScope (top 47)) := ⟨rfl, rfl, rfl, by decide +kernel, rfl, by decide +kernel, by decide +kernel⟩
theorem ok_E {f_m C_0 : Addr} (D : Def K "of_branch" "of_branch" (top 47) ["name", "first", "second", "immediate"] f_m) (m_b : mg "Instruction" = some (.ref C_0)) (G_a : OkC P w K mg base 1 C_0 ["self", "form", "name", "target", "first", "second", "immediate"] (spInit C_0)) : Ok P w K mg base 3 f_m ["name", "first", "second", "immediate"] (spR4 C_0 iBranch) := by
  refine D.ok sc_1g spR4_len fun cdv A outer s H vs Q E hr h => ?_
  refine ⟨_, (pss_one (ps_ret (pe_c m_b G_a hr (pa_cons pe_str (pa_cons (pv 0) (pa_cons pe_int (pa_cons (pv 1) (pa_cons (pv 2) (pa_cons (pv 3) pa_nil))))))))), ?_⟩
  obtain ⟨n, a, b, c, rfl, q⟩ := h
  exact ⟨_, rfl, _, rfl, _, rfl, _, rfl, mk_ins (i := iBranch n a b c) q⟩
theorem sc_1h : FnScope ["target", "immediate"] ["target", "immediate"] (defScope (top 48)) := ⟨rfl, rfl, rfl, by decide +kernel, rfl, by decide +kernel, by decide +kernel⟩
theorem ok_F {f_s C_0 : Addr} (D : Def K "of_jump" "of_jump" (top 48) ["target", "immediate"] f_s) (m_b : mg "Instruction" = some (.ref C_0)) (G_a : OkC P w K mg base 1 C_0 ["self", "form", "name", "target", "first", "second", "immediate"] (spInit C_0)) : Ok P w K mg base 3 f_s ["target", "immediate"] (spR2 C_0 iJump) := by
  refine D.ok sc_1h spR2_len fun cdv A outer s H vs Q E hr h => ?_
  refine ⟨_, (pss_one (ps_ret (pe_c m_b G_a hr (pa_cons pe_str (pa_cons pe_str (pa_cons (pv 0) (pa_cons pe_int (pa_cons pe_int (pa_cons (pv 1) pa_nil))))))))), ?_⟩
  obtain ⟨a, b, rfl, q⟩ := h
  exact ⟨_, rfl, _, rfl, mk_ins (i := iJump a b) q⟩
theorem sc_1i : FnScope ["target", "first", "immediate"] ["target", "first", "immediate"] (defScope (top 49)) := ⟨rfl, rfl, rfl, by decide +kernel, rfl, by decide +kernel, by decide +kernel⟩
theorem ok_G {f_n C_0 : Addr} (D : Def K "of_jump_to" "of_jump_to" (top 49) ["target", "first", "immediate"] f_n) (m_b : mg "Instruction" = some (.ref C_0)) (G_a : OkC P w K mg base 1 C_0 ["self", "form", "name", "target", "first", "second", "immediate"] (spInit C_0)) : Ok P w K mg base 3 f_n ["target", "first", "immediate"] (spR3 C_0 iJumpTo) := by
  refine D.ok sc_1i spR3_len fun cdv A outer s H vs Q E hr h => ?_
  refine ⟨_, (pss_one (ps_ret (pe_c m_b G_a hr (pa_cons pe_str (pa_cons pe_str (pa_cons (pv 0) (pa_cons (pv 1) (pa_cons pe_int (pa_cons (pv 2) pa_nil))))))))), ?_⟩
  obtain ⟨a, b, c, rfl, q⟩ := h
  exact ⟨_, rfl, _, rfl, _, rfl, mk_ins (i := iJumpTo a b c) q⟩
theorem sc_1j : FnScope [] [] (defScope (top 50)) := ⟨rfl, rfl, rfl, by decide +kernel, rfl, by decide +kernel, by decide +kernel⟩
theorem ok_H {f_1D C_0 : Addr} (D : Def K "of_nothing" "of_nothing" (top 50) [] f_1D) (m_b : mg "Instruction" = some (.ref C_0)) (G_a : OkC P w K mg base 1 C_0 ["self", "form", "name", "target", "first", "second", "immediate"] (spInit C_0)) : Ok P w K mg base 3 f_1D [] (spR0 C_0 iNothing) := by
  refine D.ok sc_1j spR0_len fun cdv A outer s H vs Q E hr h => ?_
  refine ⟨_, (pss_one (ps_ret (pe_c m_b G_a hr (pa_cons pe_str (pa_cons pe_str (pa_cons pe_int (pa_cons pe_int (pa_cons pe_int (pa_cons pe_int pa_nil))))))))), ?_⟩
  obtain ⟨rfl, q⟩ := h
  exact mk_ins (i := iNothing) q
theorem sc_1k : FnScope ["name"] ["name"] (defScope (top 51)) := ⟨rfl, rfl, rfl, by decide +kernel, rfl, by decide +kernel, by decide +kernel⟩
theorem ok_I {f_o C_0 : Addr} (D : Def K "of_stop" "of_stop" (top 51) ["name"] f_o) (m_b : mg "Instruction" = some (.ref C_0)) (G_a : OkC P w K mg base 1 C_0 ["self", "form", "name", "target", "first", "second", "immediate"] (spInit C_0)) : Ok P w K mg base 3 f_o ["name"] (spR1 C_0 iStop) := by
  refine D.ok sc_1k spR1_len fun cdv A outer s H vs Q E hr h => ?_
  refine ⟨_, (pss_one (ps_ret (pe_c m_b G_a hr (pa_cons pe_str (pa_cons (pv 0) (pa_cons pe_int (pa_cons pe_int (pa_cons pe_int (pa_cons pe_int pa_nil))))))))), ?_⟩
  obtain ⟨n, rfl, q⟩ := h
  exact ⟨_, rfl, mk_ins (i := iStop n) q⟩
theorem sc_1l : FnScope [] [] (defScope (top 52)) := ⟨rfl, rfl, rfl, by decide +kernel, rfl, by decide +kernel, by decide +kernel⟩
theorem ok_J {f_3 f_o C_0 : Addr} (D : Def K "of_reserved" "of_reserved" (top 52) [] f_3) (m_r : mg "of_stop" = some (.ref f_o)) (G_q : Ok P w K mg base 3 f_o ["name"] (spR1 C_0 iStop)) : Ok P w K mg base 4 f_3 [] (spR0 C_0 (iStop "reserved")) := by
  refine D.ok sc_1l spR0_len fun cdv A outer s H vs Q E hr h => ?_
  refine ⟨_, (pss_one (ps_ret (pe_g m_r G_q hr (pa_cons pe_str pa_nil)))), ?_⟩
  obtain ⟨rfl, q⟩ := h
  exact ⟨_, rfl, q⟩
end
end Sp8
end
section
namespace Sp8
open PySem PySem.Spec PyProof.Rows L2
open Sg08 (Alu WORD Instr)
theorem tne {a b : Nat} (h : (!decide (V.int (a : Int) = V.int (b : Int))) = true) : ¬ a = b := fun e => by subst e; simp at h
theorem tneF {a b : Nat} (h : ¬ (!decide (V.int (a : Int) = V.int (b : Int))) = true) : a = b := by
  have h2 : V.int (a : Int) = V.int (b : Int) := by simpa using h
  have := V.int.inj h2
  omega
theorem teq {a b : Nat} (h : decide (V.int (a : Int) = V.int (b : Int)) = true) : a = b := by
  have := V.int.inj (of_decide_eq_true h); omega
theorem teqF {a b : Nat} (h : ¬ decide (V.int (a : Int) = V.int (b : Int)) = true) : ¬ a = b := fun e => h (decide_eq_true (by rw [e]))
theorem valV_none {κ : Type} [DecidableEq κ] : ∀ {kvs : List (κ × V)} {k : κ}, k ∉ kvs.map (·.1) → valV kvs k = none
  | [], _, _ => rfl
  | p :: r, k, h => by
    rw [valV_neg (fun e => h (by rw [← e]; exact List.mem_cons_self))]
    exact valV_none fun m => h (List.mem_cons_of_mem _ m)
theorem br_tab : ∀ n < 8, valV kv_3 (.inl ((n : Nat) : Int)) = if n = 2 ∨ n = 3 then none else some (.str (brN n)) := by decide +kernel
theorem ld_tab : ∀ n < 8, valV kv_1 (.inl ((n : Nat) : Int)) = if n = 7 then none else some (.str (ldN n)) := by decide +kernel
theorem st_tab : ∀ n < 8, valV kv_2 (.inl ((n : Nat) : Int)) = if n < 4 then some (.str (stN n)) else none := by decide +kernel
theorem imm_tab : ∀ n < 8, valV kv_4 (.inl ((n : Nat) : Int)) = (immOf n).map fun o => .str (aluN o) := by decide +kernel
theorem sh_tab' : ∀ a < 64, ∀ b < 8, valV kv_5 [.inl ((a : Nat) : Int), .inl ((b : Nat) : Int)] = (shiftOf a b).map fun o => .str (aluN o) := by decide +kernel
theorem shw_tab' : ∀ a < 128, ∀ b < 8, valV kv_6 [.inl ((a : Nat) : Int), .inl ((b : Nat) : Int)] = (shiftwOf a b).map fun o => .str (aluN o) := by decide +kernel
theorem reg_tab' : ∀ a < 128, ∀ b < 8, valV kv_7 [.inl ((a : Nat) : Int), .inl ((b : Nat) : Int)] = (Sg08.opOf b a).map fun o => .str (aluN o) := by decide +kernel
theorem regw_tab' : ∀ a < 128, ∀ b < 8, valV kv_8 [.inl ((a : Nat) : Int), .inl ((b : Nat) : Int)] = (Sg08.opwOf b a).map fun o => .str (aluN o) := by decide +kernel
theorem sh_tab (n : Nat) : valV kv_5 [.inl (fieldZ (n : Int) 26 6), .inl ((Sg08.bits n 14 12 : Nat) : Int)] = (shiftOf (Sg08.bits n 31 26) (Sg08.bits n 14 12)).map fun o => .str (aluN o) := by
  rw [show fieldZ (n : Int) 26 6 = _ from fieldZ_nat n 26 6]; exact sh_tab' _ (bits_lt n 31 26) _ (bits_lt n 14 12)
theorem shw_tab (n : Nat) : valV kv_6 [.inl (fieldZ (n : Int) 25 7), .inl ((Sg08.bits n 14 12 : Nat) : Int)] = (shiftwOf (Sg08.bits n 31 25) (Sg08.bits n 14 12)).map fun o => .str (aluN o) := by
  rw [show fieldZ (n : Int) 25 7 = _ from fieldZ_nat n 25 7]; exact shw_tab' _ (bits_lt n 31 25) _ (bits_lt n 14 12)
theorem reg_tab (n : Nat) : valV kv_7 [.inl (fieldZ (n : Int) 25 7), .inl ((Sg08.bits n 14 12 : Nat) : Int)] = (Sg08.opOf (Sg08.bits n 14 12) (Sg08.bits n 31 25)).map fun o => .str (aluN o) := by
  rw [show fieldZ (n : Int) 25 7 = _ from fieldZ_nat n 25 7]; exact reg_tab' _ (bits_lt n 31 25) _ (bits_lt n 14 12)
theorem regw_tab (n : Nat) : valV kv_8 [.inl (fieldZ (n : Int) 25 7), .inl ((Sg08.bits n 14 12 : Nat) : Int)] = (Sg08.opwOf (Sg08.bits n 14 12) (Sg08.bits n 31 25)).map fun o => .str (aluN o) := by
  rw [show fieldZ (n : Int) 25 7 = _ from fieldZ_nat n 25 7]; exact regw_tab' _ (bits_lt n 31 25) _ (bits_lt n 14 12)
theorem sys_tab (n : Nat) : valV kv_9 (.inl ((n : Nat) : Int)) = if n = 115 then some (.str "ecall") else if n = 1048691 then some (.str "ebreak") else none := by
  by_cases e : n = 115
  · subst e; rfl
  · rw [if_neg e]
    by_cases e2 : n = 1048691
    · subst e2; rfl
    · rw [if_neg e2]
      exact valV_none (by intro hm; simp [kv_9] at hm; omega)
end Sp8
end
section
namespace Sp8
open PySem PySem.Spec PyProof.Rows L2
open Sg08 (Alu WORD Machine Instr)
section
variable {P : Program} {w : World} {K : PySem.W.Frag} {mg : Str → Option Value} {base : Heap}
theorem sc_1m : FnScope ["word"] ["word"] (defScope (top 68)) := ⟨rfl, rfl, rfl, by decide +kernel, rfl, by decide +kernel, by decide +kernel⟩
theorem ok_K {f_7 f_0 : Addr} (D : Def K "target_of" "target_of" (top 68) ["word"] f_7) (m_0 : mg "field" = some (.ref f_0)) (G_0 : Ok P w K mg base 1 f_0 ["word", "low", "width"] spField) : Ok P w K mg base 2 f_7 ["word"] (spN fun w => ((Sg08.bits w 11 7 : Nat) : Int)) := by
  refine D.ok sc_1m spN_len fun cdv A outer s H vs Q E hr h => ?_
  refine ⟨_, (pss_one (ps_ret (pe_g m_0 G_0 hr (pa_cons (pv 0) (pa_cons pe_int (pa_cons pe_int pa_nil)))))), ?_⟩
  obtain ⟨n, rfl, q⟩ := h
  exact ⟨_, rfl, _, _, _, rfl, ⟨by decide, by decide, by decide⟩, qe (congrArg V.int (fieldZ_nat n 7 5)) q⟩
theorem sc_1n : FnScope ["word"] ["word"] (defScope (top 69)) := ⟨rfl, rfl, rfl, by decide +kernel, rfl, by decide +kernel, by decide +kernel⟩
theorem ok_L {f_8 f_0 : Addr} (D : Def K "three_of" "three_of" (top 69) ["word"] f_8) (m_0 : mg "field" = some (.ref f_0)) (G_0 : Ok P w K mg base 1 f_0 ["word", "low", "width"] spField) : Ok P w K mg base 2 f_8 ["word"] (spN fun w => ((Sg08.bits w 14 12 : Nat) : Int)) := by
  refine D.ok sc_1n spN_len fun cdv A outer s H vs Q E hr h => ?_
  refine ⟨_, (pss_one (ps_ret (pe_g m_0 G_0 hr (pa_cons (pv 0) (pa_cons pe_int (pa_cons pe_int pa_nil)))))), ?_⟩
  obtain ⟨n, rfl, q⟩ := h
  exact ⟨_, rfl, _, _, _, rfl, ⟨by decide, by decide, by decide⟩, qe (congrArg V.int (fieldZ_nat n 12 3)) q⟩
theorem sc_1o : FnScope ["word"] ["word"] (defScope (top 70)) := ⟨rfl, rfl, rfl, by decide +kernel, rfl, by decide +kernel, by decide +kernel⟩
theorem ok_M {f_9 f_0 : Addr} (D : Def K "first_of" "first_of" (top 70) ["word"] f_9) (m_0 : mg "field" = some (.ref f_0)) (G_0 : Ok P w K mg base 1 f_0 ["word", "low", "width"] spField) : Ok P w K mg base 2 f_9 ["word"] (spN fun w => ((Sg08.bits w 19 15 : Nat) : Int)) := by
  refine D.ok sc_1o spN_len fun cdv A outer s H vs Q E hr h => ?_
  refine ⟨_, (pss_one (ps_ret (pe_g m_0 G_0 hr (pa_cons (pv 0) (pa_cons pe_int (pa_cons pe_int pa_nil)))))), ?_⟩
  obtain ⟨n, rfl, q⟩ := h
  exact ⟨_, rfl, _, _, _, rfl, ⟨by decide, by decide, by decide⟩, qe (congrArg V.int (fieldZ_nat n 15 5)) q⟩
theorem sc_1p : FnScope ["word"] ["word"] (defScope (top 71)) := ⟨rfl, rfl, rfl, by decide +kernel, rfl, by decide +kernel, by decide +kernel⟩
theorem ok_N {f_i f_0 : Addr} (D : Def K "second_of" "second_of" (top 71) ["word"] f_i) (m_0 : mg "field" = some (.ref f_0)) (G_0 : Ok P w K mg base 1 f_0 ["word", "low", "width"] spField) : Ok P w K mg base 2 f_i ["word"] (spN fun w => ((Sg08.bits w 24 20 : Nat) : Int)) := by
  refine D.ok sc_1p spN_len fun cdv A outer s H vs Q E hr h => ?_
  refine ⟨_, (pss_one (ps_ret (pe_g m_0 G_0 hr (pa_cons (pv 0) (pa_cons pe_int (pa_cons pe_int pa_nil)))))), ?_⟩
  obtain ⟨n, rfl, q⟩ := h
  exact ⟨_, rfl, _, _, _, rfl, ⟨by decide, by decide, by decide⟩, qe (congrArg V.int (fieldZ_nat n 20 5)) q⟩
theorem sc_1q : FnScope ["word"] ["word"] (defScope (top 72)) := ⟨rfl, rfl, rfl, by decide +kernel, rfl, by decide +kernel, by decide +kernel⟩
theorem ok_O {f_j f_1 f_2 a_8 : Addr} (D : Def K "plain_immediate" "plain_immediate" (top 72) ["word"] f_j) (m_1 : mg "extend" = some (.ref f_1)) (G_1 : Ok P w K mg base 3 f_1 ["number", "width"] spExtend) (m_2 : mg "gather" = some (.ref f_2)) (G_2 : Ok P w K mg base 2 f_2 ["word", "pieces"] (spGather K)) (m_N : mg "PLAIN_PIECES_long_words" = some (.ref a_8)) (p_4 : Pcs K a_8 [(20, 12, 0)]) : Ok P w K mg base 4 f_j ["word"] (spN fun w => ((Sg08.wrap (Sg08.immI w) : Nat) : Int)) := by
  refine D.ok sc_1q spN_len fun cdv A outer s H vs Q E hr h => ?_
  refine ⟨_, (pss_one (ps_ret (pe_g m_1 G_1 hr (pa_cons (pe_g m_2 G_2 hr (pa_cons (pv 0) (pa_cons (pe_glob (v := .ref a_8) rfl m_N rfl) pa_nil))) (pa_cons pe_int pa_nil))))), ?_⟩
  obtain ⟨n, rfl, q⟩ := h
  exact ⟨_, rfl, n, _, _, rfl, p_4, by decide, _, _, rfl, ⟨by decide, by decide⟩, qe (congrArg V.int (by rw [g_immI]; exact extendZ_nat _ 11)) q⟩
theorem sc_1r : FnScope ["word"] ["word"] (defScope (top 74)) := ⟨rfl, rfl, rfl, by decide +kernel, rfl, by decide +kernel, by decide +kernel⟩
theorem ok_P {f_t f_1 f_2 a_9 : Addr} (D : Def K "upper_immediate" "upper_immediate" (top 74) ["word"] f_t) (m_1 : mg "extend" = some (.ref f_1)) (G_1 : Ok P w K mg base 3 f_1 ["number", "width"] spExtend) (m_2 : mg "gather" = some (.ref f_2)) (G_2 : Ok P w K mg base 2 f_2 ["word", "pieces"] (spGather K)) (m_O : mg "UPPER_PIECES_long_words" = some (.ref a_9)) (p_5 : Pcs K a_9 [(12, 20, 12)]) : Ok P w K mg base 4 f_t ["word"] (spN fun w => ((Sg08.wrap (Sg08.immU w) : Nat) : Int)) := by
  refine D.ok sc_1r spN_len fun cdv A outer s H vs Q E hr h => ?_
  refine ⟨_, (pss_one (ps_ret (pe_g m_1 G_1 hr (pa_cons (pe_g m_2 G_2 hr (pa_cons (pv 0) (pa_cons (pe_glob (v := .ref a_9) rfl m_O rfl) pa_nil))) (pa_cons pe_int pa_nil))))), ?_⟩
  obtain ⟨n, rfl, q⟩ := h
  exact ⟨_, rfl, n, _, _, rfl, p_5, by decide, _, _, rfl, ⟨by decide, by decide⟩, qe (congrArg V.int (by rw [g_immU]; exact extendZ_nat _ 31)) q⟩
theorem sc_1s : FnScope ["word"] ["word"] (defScope (top 75)) := ⟨rfl, rfl, rfl, by decide +kernel, rfl, by decide +kernel, by decide +kernel⟩
theorem ok_Q {f_x f_5 C_0 f_t f_7 : Addr} (D : Def K "read_upper" "read_upper" (top 75) ["word"] f_x) (m_6 : mg "of_immediate" = some (.ref f_5)) (G_6 : Ok P w K mg base 3 f_5 ["name", "target", "first", "immediate"] (spR4 C_0 iImm)) (m_z : mg "upper_immediate" = some (.ref f_t)) (G_x : Ok P w K mg base 4 f_t ["word"] (spN fun w => ((Sg08.wrap (Sg08.immU w) : Nat) : Int))) (m_9 : mg "target_of" = some (.ref f_7)) (G_8 : Ok P w K mg base 2 f_7 ["word"] (spN fun w => ((Sg08.bits w 11 7 : Nat) : Int))) : Ok P w K mg base 5 f_x ["word"] (spRd C_0 (fun w => Sg08.bits w 6 0 = 55) fun w => insO (Sg08.long w)) := by
  refine D.ok sc_1s spRd_len fun cdv A outer s H vs Q E hr h => ?_
  refine ⟨_, (pss_one (ps_ret (pe_g m_6 G_6 hr (pa_cons pe_str (pa_cons (pe_g m_9 G_8 hr (pa_cons (pv 0) pa_nil)) (pa_cons pe_int (pa_cons (pe_g m_z G_x hr (pa_cons (pv 0) pa_nil)) pa_nil))))))), ?_⟩
  obtain ⟨n, rfl, h1, q⟩ := h
  replace q : RetI C_0 H Q (insO (Sg08.long n)) := q
  rw [long_37 h1] at q
  exact ⟨_, rfl, n, rfl, _, rfl, n, rfl, _, _, _, _, rfl, q⟩
theorem sc_1t : FnScope ["word"] ["word"] (defScope (top 77)) := ⟨rfl, rfl, rfl, by decide +kernel, rfl, by decide +kernel, by decide +kernel⟩
theorem ok_R {f_y f_1C C_0 f_t f_7 : Addr} (D : Def K "read_upper_of_pc" "read_upper_of_pc" (top 77) ["word"] f_y) (m_P : mg "of_pc" = some (.ref f_1C)) (G_E : Ok P w K mg base 3 f_1C ["target", "immediate"] (spR2 C_0 iPc)) (m_z : mg "upper_immediate" = some (.ref f_t)) (G_x : Ok P w K mg base 4 f_t ["word"] (spN fun w => ((Sg08.wrap (Sg08.immU w) : Nat) : Int))) (m_9 : mg "target_of" = some (.ref f_7)) (G_8 : Ok P w K mg base 2 f_7 ["word"] (spN fun w => ((Sg08.bits w 11 7 : Nat) : Int))) : Ok P w K mg base 5 f_y ["word"] (spRd C_0 (fun w => Sg08.bits w 6 0 = 23) fun w => insO (Sg08.long w)) := by
  refine D.ok sc_1t spRd_len fun cdv A outer s H vs Q E hr h => ?_
  refine ⟨_, (pss_one (ps_ret (pe_g m_P G_E hr (pa_cons (pe_g m_9 G_8 hr (pa_cons (pv 0) pa_nil)) (pa_cons (pe_g m_z G_x hr (pa_cons (pv 0) pa_nil)) pa_nil))))), ?_⟩
  obtain ⟨n, rfl, h1, q⟩ := h
  replace q : RetI C_0 H Q (insO (Sg08.long n)) := q
  rw [long_17 h1] at q
  exact ⟨_, rfl, n, rfl, _, rfl, n, rfl, _, _, rfl, q⟩
theorem sc_1u : FnScope ["word"] ["word"] (defScope (top 78)) := ⟨rfl, rfl, rfl, by decide +kernel, rfl, by decide +kernel, by decide +kernel⟩
theorem ok_S {f_z f_s C_0 f_1 f_2 a_a f_7 : Addr} (D : Def K "read_jump" "read_jump" (top 78) ["word"] f_z) (m_A : mg "of_jump" = some (.ref f_s)) (G_y : Ok P w K mg base 3 f_s ["target", "immediate"] (spR2 C_0 iJump)) (m_1 : mg "extend" = some (.ref f_1)) (G_1 : Ok P w K mg base 3 f_1 ["number", "width"] spExtend) (m_2 : mg "gather" = some (.ref f_2)) (G_2 : Ok P w K mg base 2 f_2 ["word", "pieces"] (spGather K)) (m_Q : mg "JUMP_PIECES_long_words" = some (.ref a_a)) (m_9 : mg "target_of" = some (.ref f_7)) (G_8 : Ok P w K mg base 2 f_7 ["word"] (spN fun w => ((Sg08.bits w 11 7 : Nat) : Int))) (p_6 : Pcs K a_a [(21, 10, 1), (20, 1, 11), (12, 8, 12), (31, 1, 20)]) : Ok P w K mg base 4 f_z ["word"] (spRd C_0 (fun w => Sg08.bits w 6 0 = 111) fun w => insO (Sg08.long w)) := by
  refine D.ok sc_1u spRd_len fun cdv A outer s H vs Q E hr h => ?_
  refine ⟨_, (pss_one (ps_ret (pe_g m_A G_y hr (pa_cons (pe_g m_9 G_8 hr (pa_cons (pv 0) pa_nil)) (pa_cons (pe_g m_1 G_1 hr (pa_cons (pe_g m_2 G_2 hr (pa_cons (pv 0) (pa_cons (pe_glob (v := .ref a_a) rfl m_Q rfl) pa_nil))) (pa_cons pe_int pa_nil))) pa_nil))))), ?_⟩
  obtain ⟨n, rfl, h1, q⟩ := h
  replace q : RetI C_0 H Q (insO (Sg08.long n)) := q
  rw [long_6F h1] at q
  refine ⟨_, rfl, n, rfl, _, rfl, n, _, _, rfl, p_6, by decide, _, _, rfl, ⟨by decide, by decide⟩, _, _, rfl, ?_⟩
  rw [g_immJ, show extendZ _ 21 = _ from extendZ_nat _ 20]
  exact q
theorem sc_1v : FnScope ["word"] ["word"] (defScope (top 80)) := ⟨rfl, rfl, rfl, by decide +kernel, rfl, by decide +kernel, by decide +kernel⟩
theorem ok_T {f_A f_n C_0 f_j f_9 f_7 f_8 f_3 : Addr} (D : Def K "read_jump_to" "read_jump_to" (top 80) ["word"] f_A) (m_s : mg "of_jump_to" = some (.ref f_n)) (G_r : Ok P w K mg base 3 f_n ["target", "first", "immediate"] (spR3 C_0 iJumpTo)) (m_n : mg "plain_immediate_long_words" = some (.ref f_j)) (G_n : Ok P w K mg base 4 f_j ["word"] (spN fun w => ((Sg08.wrap (Sg08.immI w) : Nat) : Int))) (m_c : mg "first_of" = some (.ref f_9)) (G_b : Ok P w K mg base 2 f_9 ["word"] (spN fun w => ((Sg08.bits w 19 15 : Nat) : Int))) (m_9 : mg "target_of" = some (.ref f_7)) (G_8 : Ok P w K mg base 2 f_7 ["word"] (spN fun w => ((Sg08.bits w 11 7 : Nat) : Int))) (m_a : mg "three_of" = some (.ref f_8)) (G_9 : Ok P w K mg base 2 f_8 ["word"] (spN fun w => ((Sg08.bits w 14 12 : Nat) : Int))) (m_3 : mg "of_reserved" = some (.ref f_3)) (G_3 : Ok P w K mg base 4 f_3 [] (spR0 C_0 (iStop "reserved"))) : Ok P w K mg base 5 f_A ["word"] (spRd C_0 (fun w => Sg08.bits w 6 0 = 103) fun w => insO (Sg08.long w)) := by
  refine D.ok sc_1v spRd_len fun cdv A outer s H vs Q E hr h => ?_
  refine ⟨_, (pss_cons (ps_if (pt_cmpR op_ne (pe_g m_a G_9 hr (pa_cons (pv 0) pa_nil)) pe_int (nomark _)) (pss_one (ps_ret (pe_g0 m_3 G_3 hr))) pss_nil) (pss_one (ps_ret (pe_g m_s G_r hr (pa_cons (pe_g m_9 G_8 hr (pa_cons (pv 0) pa_nil)) (pa_cons (pe_g m_c G_b hr (pa_cons (pv 0) pa_nil)) (pa_cons (pe_g m_n G_n hr (pa_cons (pv 0) pa_nil)) pa_nil))))))), ?_⟩
  obtain ⟨n, rfl, h1, q⟩ := h
  replace q : RetI C_0 H Q (insO (Sg08.long n)) := q
  rw [long_67 h1] at q
  refine ⟨_, rfl, n, rfl, rfl, _, rfl, ?_⟩
  refine ite2 (fun e => ?_) fun e => ?_
  · rw [if_neg (tne (b := 0) e)] at q
    exact ⟨rfl, q⟩
  · rw [if_pos (tneF (b := 0) e)] at q
    exact ⟨_, rfl, n, rfl, _, rfl, n, rfl, _, rfl, n, rfl, _, _, _, rfl, q⟩
theorem sc_j : FnScope ["word", "name"] ["word"] (defScope (top 81)) := ⟨rfl, rfl, rfl, by decide +kernel, rfl, by decide +kernel, by decide +kernel⟩
theorem ok_U {f_B f_m C_0 f_1 f_2 a_b f_i f_9 f_3 a_c f_8 : Addr} (D : Def K "read_branch" "read_branch" (top 81) ["word"] f_B) (m_t : mg "of_branch" = some (.ref f_m)) (G_s : Ok P w K mg base 3 f_m ["name", "first", "second", "immediate"] (spR4 C_0 iBranch)) (m_1 : mg "extend" = some (.ref f_1)) (G_1 : Ok P w K mg base 3 f_1 ["number", "width"] spExtend) (m_2 : mg "gather" = some (.ref f_2)) (G_2 : Ok P w K mg base 2 f_2 ["word", "pieces"] (spGather K)) (m_R : mg "BRANCH_PIECES_long_words" = some (.ref a_b)) (m_o : mg "second_of" = some (.ref f_i)) (G_o : Ok P w K mg base 2 f_i ["word"] (spN fun w => ((Sg08.bits w 24 20 : Nat) : Int))) (m_c : mg "first_of" = some (.ref f_9)) (G_b : Ok P w K mg base 2 f_9 ["word"] (spN fun w => ((Sg08.bits w 19 15 : Nat) : Int))) (m_3 : mg "of_reserved" = some (.ref f_3)) (G_3 : Ok P w K mg base 4 f_3 [] (spR0 C_0 (iStop "reserved"))) (m_S : mg "BRANCHES" = some (.ref a_c)) (m_a : mg "three_of" = some (.ref f_8)) (G_9 : Ok P w K mg base 2 f_8 ["word"] (spN fun w => ((Sg08.bits w 14 12 : Nat) : Int))) (k_5 : KD P w K a_c kv_3) (p_7 : Pcs K a_b [(8, 4, 1), (25, 6, 5), (7, 1, 11), (31, 1, 12)]) : Ok P w K mg base 5 f_B ["word"] (spRd C_0 (fun w => Sg08.bits w 6 0 = 99) fun w => insO (Sg08.long w)) := by
  refine D.ok sc_j spRd_len fun cdv A outer s H vs Q E hr h => ?_
  have hu := hu_of hr
  refine ⟨_, (pss_cons (ps_set (i := 1) sc_j.nd rfl (Or.inl rfl) (pe_kget1 hu (pe_glob (v := .ref a_c) rfl m_S rfl) (pe_g m_a G_9 hr (pa_cons (pv 0) pa_nil)) ⟨rfl, rfl, rfl, rfl⟩)) (pss_cons (ps_if (pt_cmp (pc_isN (pv 1))) (pss_one (ps_ret (pe_g0 m_3 G_3 hr))) pss_nil) (pss_one (ps_ret (pe_g m_t G_s hr (pa_cons (pv 1) (pa_cons (pe_g m_c G_b hr (pa_cons (pv 0) pa_nil)) (pa_cons (pe_g m_o G_o hr (pa_cons (pv 0) pa_nil)) (pa_cons (pe_g m_1 G_1 hr (pa_cons (pe_g m_2 G_2 hr (pa_cons (pv 0) (pa_cons (pe_glob (v := .ref a_b) rfl m_R rfl) pa_nil))) (pa_cons pe_int pa_nil))) pa_nil))))))))), ?_⟩
  obtain ⟨n, rfl, h1, q⟩ := h
  replace q : RetI C_0 H Q (insO (Sg08.long n)) := q
  rw [long_63 h1] at q
  have ek := br_tab _ (f3_lt (w := n))
  by_cases e : Sg08.bits n 14 12 = 2 ∨ Sg08.bits n 14 12 = 3
  · rw [if_pos e] at q ek
    exact ⟨_, rfl, .inl ⟨_, k_5⟩, _, rfl, n, rfl, Option.none, .inl ⟨_, .inl _, k_5, rfl, ek.symm⟩, _, rfl, _, rfl, iteT ⟨rfl, q⟩⟩
  · rw [if_neg e] at q ek
    refine ⟨_, rfl, .inl ⟨_, k_5⟩, _, rfl, n, rfl, some _, .inl ⟨_, .inl _, k_5, rfl, ek.symm⟩, _, rfl, _, rfl, iteF ⟨_, rfl, _, rfl, n, rfl, _, rfl, n, rfl, _, rfl, n, _, _, rfl, p_7, by decide, _, _, rfl, ⟨by decide, by decide⟩, _, _, _, _, rfl, ?_⟩⟩
    rw [g_immB, show extendZ _ 13 = _ from extendZ_nat _ 12]
    exact q
theorem sc_k : FnScope ["word", "name"] ["word"] (defScope (top 82)) := ⟨rfl, rfl, rfl, by decide +kernel, rfl, by decide +kernel, by decide +kernel⟩
theorem ok_V {f_C f_f C_0 f_j f_9 f_7 f_3 a_d f_8 : Addr} (D : Def K "read_load" "read_load" (top 82) ["word"] f_C) (m_j : mg "of_load" = some (.ref f_f)) (G_i : Ok P w K mg base 3 f_f ["name", "target", "first", "immediate"] (spR4 C_0 iLoad)) (m_n : mg "plain_immediate_long_words" = some (.ref f_j)) (G_n : Ok P w K mg base 4 f_j ["word"] (spN fun w => ((Sg08.wrap (Sg08.immI w) : Nat) : Int))) (m_c : mg "first_of" = some (.ref f_9)) (G_b : Ok P w K mg base 2 f_9 ["word"] (spN fun w => ((Sg08.bits w 19 15 : Nat) : Int))) (m_9 : mg "target_of" = some (.ref f_7)) (G_8 : Ok P w K mg base 2 f_7 ["word"] (spN fun w => ((Sg08.bits w 11 7 : Nat) : Int))) (m_3 : mg "of_reserved" = some (.ref f_3)) (G_3 : Ok P w K mg base 4 f_3 [] (spR0 C_0 (iStop "reserved"))) (m_T : mg "LOADS" = some (.ref a_d)) (m_a : mg "three_of" = some (.ref f_8)) (G_9 : Ok P w K mg base 2 f_8 ["word"] (spN fun w => ((Sg08.bits w 14 12 : Nat) : Int))) (k_6 : KD P w K a_d kv_1) : Ok P w K mg base 5 f_C ["word"] (spRd C_0 (fun w => Sg08.bits w 6 0 = 3) fun w => insO (Sg08.long w)) := by
  refine D.ok sc_k spRd_len fun cdv A outer s H vs Q E hr h => ?_
  have hu := hu_of hr
  refine ⟨_, (pss_cons (ps_set (i := 1) sc_k.nd rfl (Or.inl rfl) (pe_kget1 hu (pe_glob (v := .ref a_d) rfl m_T rfl) (pe_g m_a G_9 hr (pa_cons (pv 0) pa_nil)) ⟨rfl, rfl, rfl, rfl⟩)) (pss_cons (ps_if (pt_cmp (pc_isN (pv 1))) (pss_one (ps_ret (pe_g0 m_3 G_3 hr))) pss_nil) (pss_one (ps_ret (pe_g m_j G_i hr (pa_cons (pv 1) (pa_cons (pe_g m_9 G_8 hr (pa_cons (pv 0) pa_nil)) (pa_cons (pe_g m_c G_b hr (pa_cons (pv 0) pa_nil)) (pa_cons (pe_g m_n G_n hr (pa_cons (pv 0) pa_nil)) pa_nil))))))))), ?_⟩
  obtain ⟨n, rfl, h1, q⟩ := h
  replace q : RetI C_0 H Q (insO (Sg08.long n)) := q
  rw [long_03 h1] at q
  have ek := ld_tab _ (f3_lt (w := n))
  by_cases e : Sg08.bits n 14 12 = 7
  · rw [if_pos e] at q ek
    exact ⟨_, rfl, .inl ⟨_, k_6⟩, _, rfl, n, rfl, Option.none, .inl ⟨_, .inl _, k_6, rfl, ek.symm⟩, _, rfl, _, rfl, iteT ⟨rfl, q⟩⟩
  · rw [if_neg e] at q ek
    exact ⟨_, rfl, .inl ⟨_, k_6⟩, _, rfl, n, rfl, some _, .inl ⟨_, .inl _, k_6, rfl, ek.symm⟩, _, rfl, _, rfl, iteF ⟨_, rfl, _, rfl, n, rfl, _, rfl, n, rfl, _, rfl, n, rfl, _, _, _, _, rfl, q⟩⟩
theorem sc_l : FnScope ["word", "name"] ["word"] (defScope (top 83)) := ⟨rfl, rfl, rfl, by decide +kernel, rfl, by decide +kernel, by decide +kernel⟩
theorem ok_W {f_D f_g C_0 f_1 f_2 a_e f_i f_9 f_3 a_f f_8 : Addr} (D : Def K "read_store" "read_store" (top 83) ["word"] f_D) (m_k : mg "of_store" = some (.ref f_g)) (G_j : Ok P w K mg base 3 f_g ["name", "first", "second", "immediate"] (spR4 C_0 iStore)) (m_1 : mg "extend" = some (.ref f_1)) (G_1 : Ok P w K mg base 3 f_1 ["number", "width"] spExtend) (m_2 : mg "gather" = some (.ref f_2)) (G_2 : Ok P w K mg base 2 f_2 ["word", "pieces"] (spGather K)) (m_U : mg "STORE_PIECES" = some (.ref a_e)) (m_o : mg "second_of" = some (.ref f_i)) (G_o : Ok P w K mg base 2 f_i ["word"] (spN fun w => ((Sg08.bits w 24 20 : Nat) : Int))) (m_c : mg "first_of" = some (.ref f_9)) (G_b : Ok P w K mg base 2 f_9 ["word"] (spN fun w => ((Sg08.bits w 19 15 : Nat) : Int))) (m_3 : mg "of_reserved" = some (.ref f_3)) (G_3 : Ok P w K mg base 4 f_3 [] (spR0 C_0 (iStop "reserved"))) (m_V : mg "STORES" = some (.ref a_f)) (m_a : mg "three_of" = some (.ref f_8)) (G_9 : Ok P w K mg base 2 f_8 ["word"] (spN fun w => ((Sg08.bits w 14 12 : Nat) : Int))) (k_7 : KD P w K a_f kv_2) (p_8 : Pcs K a_e [(7, 5, 0), (25, 7, 5)]) : Ok P w K mg base 5 f_D ["word"] (spRd C_0 (fun w => Sg08.bits w 6 0 = 35) fun w => insO (Sg08.long w)) := by
  refine D.ok sc_l spRd_len fun cdv A outer s H vs Q E hr h => ?_
  have hu := hu_of hr
  refine ⟨_, (pss_cons (ps_set (i := 1) sc_l.nd rfl (Or.inl rfl) (pe_kget1 hu (pe_glob (v := .ref a_f) rfl m_V rfl) (pe_g m_a G_9 hr (pa_cons (pv 0) pa_nil)) ⟨rfl, rfl, rfl, rfl⟩)) (pss_cons (ps_if (pt_cmp (pc_isN (pv 1))) (pss_one (ps_ret (pe_g0 m_3 G_3 hr))) pss_nil) (pss_one (ps_ret (pe_g m_k G_j hr (pa_cons (pv 1) (pa_cons (pe_g m_c G_b hr (pa_cons (pv 0) pa_nil)) (pa_cons (pe_g m_o G_o hr (pa_cons (pv 0) pa_nil)) (pa_cons (pe_g m_1 G_1 hr (pa_cons (pe_g m_2 G_2 hr (pa_cons (pv 0) (pa_cons (pe_glob (v := .ref a_e) rfl m_U rfl) pa_nil))) (pa_cons pe_int pa_nil))) pa_nil))))))))), ?_⟩
  obtain ⟨n, rfl, h1, q⟩ := h
  replace q : RetI C_0 H Q (insO (Sg08.long n)) := q
  rw [long_23 h1] at q
  have ek := st_tab _ (f3_lt (w := n))
  by_cases e : Sg08.bits n 14 12 < 4
  · rw [if_pos e] at q ek
    refine ⟨_, rfl, .inl ⟨_, k_7⟩, _, rfl, n, rfl, some _, .inl ⟨_, .inl _, k_7, rfl, ek.symm⟩, _, rfl, _, rfl, iteF ⟨_, rfl, _, rfl, n, rfl, _, rfl, n, rfl, _, rfl, n, _, _, rfl, p_8, by decide, _, _, rfl, ⟨by decide, by decide⟩, _, _, _, _, rfl, ?_⟩⟩
    rw [g_immS, show extendZ _ 12 = _ from extendZ_nat _ 11]
    exact q
  · rw [if_neg e] at q ek
    exact ⟨_, rfl, .inl ⟨_, k_7⟩, _, rfl, n, rfl, Option.none, .inl ⟨_, .inl _, k_7, rfl, ek.symm⟩, _, rfl, _, rfl, iteT ⟨rfl, q⟩⟩
theorem sc_m : FnScope ["word", "name"] ["word"] (defScope (top 84)) := ⟨rfl, rfl, rfl, by decide +kernel, rfl, by decide +kernel, by decide +kernel⟩
theorem ok_X {f_1E f_5 C_0 f_0 f_9 f_7 f_3 a_g f_8 : Addr} (D : Def K "read_shift" "read_shift" (top 84) ["word"] f_1E) (m_6 : mg "of_immediate" = some (.ref f_5)) (G_6 : Ok P w K mg base 3 f_5 ["name", "target", "first", "immediate"] (spR4 C_0 iImm)) (m_0 : mg "field" = some (.ref f_0)) (G_0 : Ok P w K mg base 1 f_0 ["word", "low", "width"] spField) (m_c : mg "first_of" = some (.ref f_9)) (G_b : Ok P w K mg base 2 f_9 ["word"] (spN fun w => ((Sg08.bits w 19 15 : Nat) : Int))) (m_9 : mg "target_of" = some (.ref f_7)) (G_8 : Ok P w K mg base 2 f_7 ["word"] (spN fun w => ((Sg08.bits w 11 7 : Nat) : Int))) (m_3 : mg "of_reserved" = some (.ref f_3)) (G_3 : Ok P w K mg base 4 f_3 [] (spR0 C_0 (iStop "reserved"))) (m_W : mg "SHIFTS" = some (.ref a_g)) (m_a : mg "three_of" = some (.ref f_8)) (G_9 : Ok P w K mg base 2 f_8 ["word"] (spN fun w => ((Sg08.bits w 14 12 : Nat) : Int))) (k_a : KDT P w K a_g kv_5) : Ok P w K mg base 5 f_1E ["word"] (spRd C_0 (fun w => Sg08.bits w 6 0 = 19 ∧ immOf (Sg08.bits w 14 12) = none) fun w => insO (Sg08.long w)) := by
  refine D.ok sc_m spRd_len fun cdv A outer s H vs Q E hr h => ?_
  have hu := hu_of hr
  refine ⟨_, (pss_cons (ps_set (i := 1) sc_m.nd rfl (Or.inl rfl) (pe_kget1 hu (pe_glob (v := .ref a_g) rfl m_W rfl) (pe_tup (pa_cons (pe_g m_0 G_0 hr (pa_cons (pv 0) (pa_cons pe_int (pa_cons pe_int pa_nil)))) (pa_cons (pe_g m_a G_9 hr (pa_cons (pv 0) pa_nil)) pa_nil))) ⟨rfl, rfl, rfl, rfl⟩)) (pss_cons (ps_if (pt_cmp (pc_isN (pv 1))) (pss_one (ps_ret (pe_g0 m_3 G_3 hr))) pss_nil) (pss_one (ps_ret (pe_g m_6 G_6 hr (pa_cons (pv 1) (pa_cons (pe_g m_9 G_8 hr (pa_cons (pv 0) pa_nil)) (pa_cons (pe_g m_c G_b hr (pa_cons (pv 0) pa_nil)) (pa_cons (pe_g m_0 G_0 hr (pa_cons (pv 0) (pa_cons pe_int (pa_cons pe_int pa_nil)))) pa_nil))))))))), ?_⟩
  obtain ⟨n, rfl, h1, q⟩ := h
  replace q : RetI C_0 H Q (insO (Sg08.long n)) := q
  rw [long_13s h1.1 h1.2] at q
  have ek := sh_tab n
  refine ⟨_, rfl, .inr ⟨_, k_a⟩, _, rfl, _, _, _, rfl, ⟨by decide, by decide, by decide⟩, _, rfl, n, rfl, (by show 2 ≤ sizeLine; decide), fun p hp => ?_⟩
  cases eo : shiftOf (Sg08.bits n 31 26) (Sg08.bits n 14 12) with
  | none =>
    rw [eo] at q ek
    exact ⟨Option.none, .inr ⟨_, [.inl _, .inl _], p, k_a, rfl, upd_same, ek.symm⟩, _, rfl, _, rfl, iteT ⟨rfl, q.laid hp⟩⟩
  | some o =>
    rw [eo] at q ek
    refine ⟨some _, .inr ⟨_, [.inl _, .inl _], p, k_a, rfl, upd_same, ek.symm⟩, _, rfl, _, rfl, iteF ⟨_, rfl, _, rfl, n, rfl, _, rfl, n, rfl, _, rfl, _, _, _, rfl, ⟨by decide, by decide, by decide⟩, _, _, _, _, rfl, ?_⟩⟩
    have q2 : RetI C_0 H Q (iImm (aluN o) _ _ ((Sg08.wrap ((Sg08.bits n 25 20 : Nat) : Int) : Nat) : Int)) := q
    rw [wrap_nat (Nat.lt_trans (bits_lt n 25 20) (by decide))] at q2
    exact RetI.laid (by rw [show fieldZ (n : Int) 20 6 = _ from fieldZ_nat n 20 6]; exact q2) hp
theorem sc_n : FnScope ["word", "name"] ["word"] (defScope (top 85)) := ⟨rfl, rfl, rfl, by decide +kernel, rfl, by decide +kernel, by decide +kernel⟩
theorem ok_Y {f_1F f_5 C_0 f_0 f_9 f_7 f_3 a_h f_8 : Addr} (D : Def K "read_shift_32" "read_shift_32" (top 85) ["word"] f_1F) (m_6 : mg "of_immediate" = some (.ref f_5)) (G_6 : Ok P w K mg base 3 f_5 ["name", "target", "first", "immediate"] (spR4 C_0 iImm)) (m_0 : mg "field" = some (.ref f_0)) (G_0 : Ok P w K mg base 1 f_0 ["word", "low", "width"] spField) (m_c : mg "first_of" = some (.ref f_9)) (G_b : Ok P w K mg base 2 f_9 ["word"] (spN fun w => ((Sg08.bits w 19 15 : Nat) : Int))) (m_9 : mg "target_of" = some (.ref f_7)) (G_8 : Ok P w K mg base 2 f_7 ["word"] (spN fun w => ((Sg08.bits w 11 7 : Nat) : Int))) (m_3 : mg "of_reserved" = some (.ref f_3)) (G_3 : Ok P w K mg base 4 f_3 [] (spR0 C_0 (iStop "reserved"))) (m_X : mg "SHIFTS_32" = some (.ref a_h)) (m_a : mg "three_of" = some (.ref f_8)) (G_9 : Ok P w K mg base 2 f_8 ["word"] (spN fun w => ((Sg08.bits w 14 12 : Nat) : Int))) (k_b : KDT P w K a_h kv_6) : Ok P w K mg base 5 f_1F ["word"] (spRd C_0 (fun w => Sg08.bits w 6 0 = 27 ∧ ¬ Sg08.bits w 14 12 = 0) fun w => insO (Sg08.long w)) := by
  refine D.ok sc_n spRd_len fun cdv A outer s H vs Q E hr h => ?_
  have hu := hu_of hr
  refine ⟨_, (pss_cons (ps_set (i := 1) sc_n.nd rfl (Or.inl rfl) (pe_kget1 hu (pe_glob (v := .ref a_h) rfl m_X rfl) (pe_tup (pa_cons (pe_g m_0 G_0 hr (pa_cons (pv 0) (pa_cons pe_int (pa_cons pe_int pa_nil)))) (pa_cons (pe_g m_a G_9 hr (pa_cons (pv 0) pa_nil)) pa_nil))) ⟨rfl, rfl, rfl, rfl⟩)) (pss_cons (ps_if (pt_cmp (pc_isN (pv 1))) (pss_one (ps_ret (pe_g0 m_3 G_3 hr))) pss_nil) (pss_one (ps_ret (pe_g m_6 G_6 hr (pa_cons (pv 1) (pa_cons (pe_g m_9 G_8 hr (pa_cons (pv 0) pa_nil)) (pa_cons (pe_g m_c G_b hr (pa_cons (pv 0) pa_nil)) (pa_cons (pe_g m_0 G_0 hr (pa_cons (pv 0) (pa_cons pe_int (pa_cons pe_int pa_nil)))) pa_nil))))))))), ?_⟩
  obtain ⟨n, rfl, h1, q⟩ := h
  replace q : RetI C_0 H Q (insO (Sg08.long n)) := q
  rw [long_1Bs h1.1 h1.2] at q
  have ek := shw_tab n
  refine ⟨_, rfl, .inr ⟨_, k_b⟩, _, rfl, _, _, _, rfl, ⟨by decide, by decide, by decide⟩, _, rfl, n, rfl, (by show 2 ≤ sizeLine; decide), fun p hp => ?_⟩
  cases eo : shiftwOf (Sg08.bits n 31 25) (Sg08.bits n 14 12) with
  | none =>
    rw [eo] at q ek
    exact ⟨Option.none, .inr ⟨_, [.inl _, .inl _], p, k_b, rfl, upd_same, ek.symm⟩, _, rfl, _, rfl, iteT ⟨rfl, q.laid hp⟩⟩
  | some o =>
    rw [eo] at q ek
    refine ⟨some _, .inr ⟨_, [.inl _, .inl _], p, k_b, rfl, upd_same, ek.symm⟩, _, rfl, _, rfl, iteF ⟨_, rfl, _, rfl, n, rfl, _, rfl, n, rfl, _, rfl, _, _, _, rfl, ⟨by decide, by decide, by decide⟩, _, _, _, _, rfl, ?_⟩⟩
    have q2 : RetI C_0 H Q (iImm (aluN o) _ _ ((Sg08.wrap ((Sg08.bits n 24 20 : Nat) : Int) : Nat) : Int)) := q
    rw [wrap_nat (Nat.lt_trans (bits_lt n 24 20) (by decide))] at q2
    exact RetI.laid (by rw [show fieldZ (n : Int) 20 5 = _ from fieldZ_nat n 20 5]; exact q2) hp
theorem sc_o : FnScope ["word", "name"] ["word"] (defScope (top 86)) := ⟨rfl, rfl, rfl, by decide +kernel, rfl, by decide +kernel, by decide +kernel⟩
theorem ok_Z {f_E f_5 C_0 f_j f_9 f_7 f_1E a_i f_8 : Addr} (D : Def K "read_immediate" "read_immediate" (top 86) ["word"] f_E) (m_6 : mg "of_immediate" = some (.ref f_5)) (G_6 : Ok P w K mg base 3 f_5 ["name", "target", "first", "immediate"] (spR4 C_0 iImm)) (m_n : mg "plain_immediate_long_words" = some (.ref f_j)) (G_n : Ok P w K mg base 4 f_j ["word"] (spN fun w => ((Sg08.wrap (Sg08.immI w) : Nat) : Int))) (m_c : mg "first_of" = some (.ref f_9)) (G_b : Ok P w K mg base 2 f_9 ["word"] (spN fun w => ((Sg08.bits w 19 15 : Nat) : Int))) (m_9 : mg "target_of" = some (.ref f_7)) (G_8 : Ok P w K mg base 2 f_7 ["word"] (spN fun w => ((Sg08.bits w 11 7 : Nat) : Int))) (m_Y : mg "read_shift" = some (.ref f_1E)) (G_F : Ok P w K mg base 5 f_1E ["word"] (spRd C_0 (fun w => Sg08.bits w 6 0 = 19 ∧ immOf (Sg08.bits w 14 12) = none) fun w => insO (Sg08.long w))) (m_Z : mg "IMMEDIATES" = some (.ref a_i)) (m_a : mg "three_of" = some (.ref f_8)) (G_9 : Ok P w K mg base 2 f_8 ["word"] (spN fun w => ((Sg08.bits w 14 12 : Nat) : Int))) (k_8 : KD P w K a_i kv_4) : Ok P w K mg base 6 f_E ["word"] (spRd C_0 (fun w => Sg08.bits w 6 0 = 19) fun w => insO (Sg08.long w)) := by
  refine D.ok sc_o spRd_len fun cdv A outer s H vs Q E hr h => ?_
  have hu := hu_of hr
  refine ⟨_, (pss_cons (ps_set (i := 1) sc_o.nd rfl (Or.inl rfl) (pe_kget1 hu (pe_glob (v := .ref a_i) rfl m_Z rfl) (pe_g m_a G_9 hr (pa_cons (pv 0) pa_nil)) ⟨rfl, rfl, rfl, rfl⟩)) (pss_cons (ps_if (pt_cmp (pc_isN (pv 1))) (pss_one (ps_ret (pe_g m_Y G_F hr (pa_cons (pv 0) pa_nil)))) pss_nil) (pss_one (ps_ret (pe_g m_6 G_6 hr (pa_cons (pv 1) (pa_cons (pe_g m_9 G_8 hr (pa_cons (pv 0) pa_nil)) (pa_cons (pe_g m_c G_b hr (pa_cons (pv 0) pa_nil)) (pa_cons (pe_g m_n G_n hr (pa_cons (pv 0) pa_nil)) pa_nil))))))))), ?_⟩
  obtain ⟨n, rfl, h1, q⟩ := h
  replace q : RetI C_0 H Q (insO (Sg08.long n)) := q
  have ek := imm_tab _ (f3_lt (w := n))
  cases eo : immOf (Sg08.bits n 14 12) with
  | none =>
    rw [eo] at ek
    exact ⟨_, rfl, .inl ⟨_, k_8⟩, _, rfl, n, rfl, Option.none, .inl ⟨_, .inl _, k_8, rfl, ek.symm⟩, _, rfl, _, rfl, iteT ⟨_, rfl, n, rfl, ⟨h1, eo⟩, q⟩⟩
  | some o =>
    rw [long_13i h1 eo] at q
    rw [eo] at ek
    exact ⟨_, rfl, .inl ⟨_, k_8⟩, _, rfl, n, rfl, some _, .inl ⟨_, .inl _, k_8, rfl, ek.symm⟩, _, rfl, _, rfl, iteF ⟨_, rfl, _, rfl, n, rfl, _, rfl, n, rfl, _, rfl, n, rfl, _, _, _, _, rfl, q⟩⟩
theorem sc_1w : FnScope ["word"] ["word"] (defScope (top 87)) := ⟨rfl, rfl, rfl, by decide +kernel, rfl, by decide +kernel, by decide +kernel⟩
theorem ok_10 {f_F f_5 C_0 f_j f_9 f_7 f_8 f_1F : Addr} (D : Def K "read_immediate_32" "read_immediate_32" (top 87) ["word"] f_F) (m_6 : mg "of_immediate" = some (.ref f_5)) (G_6 : Ok P w K mg base 3 f_5 ["name", "target", "first", "immediate"] (spR4 C_0 iImm)) (m_n : mg "plain_immediate_long_words" = some (.ref f_j)) (G_n : Ok P w K mg base 4 f_j ["word"] (spN fun w => ((Sg08.wrap (Sg08.immI w) : Nat) : Int))) (m_c : mg "first_of" = some (.ref f_9)) (G_b : Ok P w K mg base 2 f_9 ["word"] (spN fun w => ((Sg08.bits w 19 15 : Nat) : Int))) (m_9 : mg "target_of" = some (.ref f_7)) (G_8 : Ok P w K mg base 2 f_7 ["word"] (spN fun w => ((Sg08.bits w 11 7 : Nat) : Int))) (m_a : mg "three_of" = some (.ref f_8)) (G_9 : Ok P w K mg base 2 f_8 ["word"] (spN fun w => ((Sg08.bits w 14 12 : Nat) : Int))) (m_10 : mg "read_shift_32" = some (.ref f_1F)) (G_G : Ok P w K mg base 5 f_1F ["word"] (spRd C_0 (fun w => Sg08.bits w 6 0 = 27 ∧ ¬ Sg08.bits w 14 12 = 0) fun w => insO (Sg08.long w))) : Ok P w K mg base 6 f_F ["word"] (spRd C_0 (fun w => Sg08.bits w 6 0 = 27) fun w => insO (Sg08.long w)) := by
  refine D.ok sc_1w spRd_len fun cdv A outer s H vs Q E hr h => ?_
  refine ⟨_, (pss_cons (ps_if (pt_cmpR op_ne (pe_g m_a G_9 hr (pa_cons (pv 0) pa_nil)) pe_int (nomark _)) (pss_one (ps_ret (pe_g m_10 G_G hr (pa_cons (pv 0) pa_nil)))) pss_nil) (pss_one (ps_ret (pe_g m_6 G_6 hr (pa_cons pe_str (pa_cons (pe_g m_9 G_8 hr (pa_cons (pv 0) pa_nil)) (pa_cons (pe_g m_c G_b hr (pa_cons (pv 0) pa_nil)) (pa_cons (pe_g m_n G_n hr (pa_cons (pv 0) pa_nil)) pa_nil)))))))), ?_⟩
  obtain ⟨n, rfl, h1, q⟩ := h
  replace q : RetI C_0 H Q (insO (Sg08.long n)) := q
  refine ⟨_, rfl, n, rfl, rfl, _, rfl, ?_⟩
  refine ite2 (fun e => ?_) fun e => ?_
  · exact ⟨_, rfl, n, rfl, ⟨h1, tne (b := 0) e⟩, q⟩
  · rw [long_1B0 h1 (tneF (b := 0) e)] at q
    exact ⟨_, rfl, n, rfl, _, rfl, n, rfl, _, rfl, n, rfl, _, _, _, _, rfl, q⟩
theorem sc_p : FnScope ["word", "name"] ["word"] (defScope (top 88)) := ⟨rfl, rfl, rfl, by decide +kernel, rfl, by decide +kernel, by decide +kernel⟩
theorem ok_11 {f_G f_e C_0 f_i f_9 f_7 f_3 a_j f_8 f_0 : Addr} (D : Def K "read_registers" "read_registers" (top 88) ["word"] f_G) (m_l : mg "of_registers" = some (.ref f_e)) (G_k : Ok P w K mg base 3 f_e ["name", "target", "first", "second"] (spR4 C_0 iReg)) (m_o : mg "second_of" = some (.ref f_i)) (G_o : Ok P w K mg base 2 f_i ["word"] (spN fun w => ((Sg08.bits w 24 20 : Nat) : Int))) (m_c : mg "first_of" = some (.ref f_9)) (G_b : Ok P w K mg base 2 f_9 ["word"] (spN fun w => ((Sg08.bits w 19 15 : Nat) : Int))) (m_9 : mg "target_of" = some (.ref f_7)) (G_8 : Ok P w K mg base 2 f_7 ["word"] (spN fun w => ((Sg08.bits w 11 7 : Nat) : Int))) (m_3 : mg "of_reserved" = some (.ref f_3)) (G_3 : Ok P w K mg base 4 f_3 [] (spR0 C_0 (iStop "reserved"))) (m_11 : mg "REGISTERS_long_words" = some (.ref a_j)) (m_a : mg "three_of" = some (.ref f_8)) (G_9 : Ok P w K mg base 2 f_8 ["word"] (spN fun w => ((Sg08.bits w 14 12 : Nat) : Int))) (m_0 : mg "field" = some (.ref f_0)) (G_0 : Ok P w K mg base 1 f_0 ["word", "low", "width"] spField) (k_c : KDT P w K a_j kv_7) : Ok P w K mg base 5 f_G ["word"] (spRd C_0 (fun w => Sg08.bits w 6 0 = 51) fun w => insO (Sg08.long w)) := by
  refine D.ok sc_p spRd_len fun cdv A outer s H vs Q E hr h => ?_
  have hu := hu_of hr
  refine ⟨_, (pss_cons (ps_set (i := 1) sc_p.nd rfl (Or.inl rfl) (pe_kget1 hu (pe_glob (v := .ref a_j) rfl m_11 rfl) (pe_tup (pa_cons (pe_g m_0 G_0 hr (pa_cons (pv 0) (pa_cons pe_int (pa_cons pe_int pa_nil)))) (pa_cons (pe_g m_a G_9 hr (pa_cons (pv 0) pa_nil)) pa_nil))) ⟨rfl, rfl, rfl, rfl⟩)) (pss_cons (ps_if (pt_cmp (pc_isN (pv 1))) (pss_one (ps_ret (pe_g0 m_3 G_3 hr))) pss_nil) (pss_one (ps_ret (pe_g m_l G_k hr (pa_cons (pv 1) (pa_cons (pe_g m_9 G_8 hr (pa_cons (pv 0) pa_nil)) (pa_cons (pe_g m_c G_b hr (pa_cons (pv 0) pa_nil)) (pa_cons (pe_g m_o G_o hr (pa_cons (pv 0) pa_nil)) pa_nil))))))))), ?_⟩
  obtain ⟨n, rfl, h1, q⟩ := h
  replace q : RetI C_0 H Q (insO (Sg08.long n)) := q
  rw [long_33 h1] at q
  have ek := reg_tab n
  refine ⟨_, rfl, .inr ⟨_, k_c⟩, _, rfl, _, _, _, rfl, ⟨by decide, by decide, by decide⟩, _, rfl, n, rfl, (by show 2 ≤ sizeLine; decide), fun p hp => ?_⟩
  cases eo : Sg08.opOf (Sg08.bits n 14 12) (Sg08.bits n 31 25) with
  | none =>
    rw [eo] at q ek
    exact ⟨Option.none, .inr ⟨_, [.inl _, .inl _], p, k_c, rfl, upd_same, ek.symm⟩, _, rfl, _, rfl, iteT ⟨rfl, q.laid hp⟩⟩
  | some o =>
    rw [eo] at q ek
    refine ⟨some _, .inr ⟨_, [.inl _, .inl _], p, k_c, rfl, upd_same, ek.symm⟩, _, rfl, _, rfl, iteF ⟨_, rfl, _, rfl, n, rfl, _, rfl, n, rfl, _, rfl, n, rfl, _, _, _, _, rfl, ?_⟩⟩
    exact q.laid hp
theorem sc_q : FnScope ["word", "name"] ["word"] (defScope (top 89)) := ⟨rfl, rfl, rfl, by decide +kernel, rfl, by decide +kernel, by decide +kernel⟩
theorem ok_12 {f_H f_e C_0 f_i f_9 f_7 f_3 a_k f_8 f_0 : Addr} (D : Def K "read_registers_32" "read_registers_32" (top 89) ["word"] f_H) (m_l : mg "of_registers" = some (.ref f_e)) (G_k : Ok P w K mg base 3 f_e ["name", "target", "first", "second"] (spR4 C_0 iReg)) (m_o : mg "second_of" = some (.ref f_i)) (G_o : Ok P w K mg base 2 f_i ["word"] (spN fun w => ((Sg08.bits w 24 20 : Nat) : Int))) (m_c : mg "first_of" = some (.ref f_9)) (G_b : Ok P w K mg base 2 f_9 ["word"] (spN fun w => ((Sg08.bits w 19 15 : Nat) : Int))) (m_9 : mg "target_of" = some (.ref f_7)) (G_8 : Ok P w K mg base 2 f_7 ["word"] (spN fun w => ((Sg08.bits w 11 7 : Nat) : Int))) (m_3 : mg "of_reserved" = some (.ref f_3)) (G_3 : Ok P w K mg base 4 f_3 [] (spR0 C_0 (iStop "reserved"))) (m_12 : mg "REGISTERS_32" = some (.ref a_k)) (m_a : mg "three_of" = some (.ref f_8)) (G_9 : Ok P w K mg base 2 f_8 ["word"] (spN fun w => ((Sg08.bits w 14 12 : Nat) : Int))) (m_0 : mg "field" = some (.ref f_0)) (G_0 : Ok P w K mg base 1 f_0 ["word", "low", "width"] spField) (k_d : KDT P w K a_k kv_8) : Ok P w K mg base 5 f_H ["word"] (spRd C_0 (fun w => Sg08.bits w 6 0 = 59) fun w => insO (Sg08.long w)) := by
  refine D.ok sc_q spRd_len fun cdv A outer s H vs Q E hr h => ?_
  have hu := hu_of hr
  refine ⟨_, (pss_cons (ps_set (i := 1) sc_q.nd rfl (Or.inl rfl) (pe_kget1 hu (pe_glob (v := .ref a_k) rfl m_12 rfl) (pe_tup (pa_cons (pe_g m_0 G_0 hr (pa_cons (pv 0) (pa_cons pe_int (pa_cons pe_int pa_nil)))) (pa_cons (pe_g m_a G_9 hr (pa_cons (pv 0) pa_nil)) pa_nil))) ⟨rfl, rfl, rfl, rfl⟩)) (pss_cons (ps_if (pt_cmp (pc_isN (pv 1))) (pss_one (ps_ret (pe_g0 m_3 G_3 hr))) pss_nil) (pss_one (ps_ret (pe_g m_l G_k hr (pa_cons (pv 1) (pa_cons (pe_g m_9 G_8 hr (pa_cons (pv 0) pa_nil)) (pa_cons (pe_g m_c G_b hr (pa_cons (pv 0) pa_nil)) (pa_cons (pe_g m_o G_o hr (pa_cons (pv 0) pa_nil)) pa_nil))))))))), ?_⟩
  obtain ⟨n, rfl, h1, q⟩ := h
  replace q : RetI C_0 H Q (insO (Sg08.long n)) := q
  rw [long_3B h1] at q
  have ek := regw_tab n
  refine ⟨_, rfl, .inr ⟨_, k_d⟩, _, rfl, _, _, _, rfl, ⟨by decide, by decide, by decide⟩, _, rfl, n, rfl, (by show 2 ≤ sizeLine; decide), fun p hp => ?_⟩
  cases eo : Sg08.opwOf (Sg08.bits n 14 12) (Sg08.bits n 31 25) with
  | none =>
    rw [eo] at q ek
    exact ⟨Option.none, .inr ⟨_, [.inl _, .inl _], p, k_d, rfl, upd_same, ek.symm⟩, _, rfl, _, rfl, iteT ⟨rfl, q.laid hp⟩⟩
  | some o =>
    rw [eo] at q ek
    refine ⟨some _, .inr ⟨_, [.inl _, .inl _], p, k_d, rfl, upd_same, ek.symm⟩, _, rfl, _, rfl, iteF ⟨_, rfl, _, rfl, n, rfl, _, rfl, n, rfl, _, rfl, n, rfl, _, _, _, _, rfl, ?_⟩⟩
    exact q.laid hp
theorem sc_1x : FnScope ["word"] ["word"] (defScope (top 90)) := ⟨rfl, rfl, rfl, by decide +kernel, rfl, by decide +kernel, by decide +kernel⟩
theorem ok_13 {f_I f_1D C_0 f_8 f_3 : Addr} (D : Def K "read_fence" "read_fence" (top 90) ["word"] f_I) (m_13 : mg "of_nothing" = some (.ref f_1D)) (G_H : Ok P w K mg base 3 f_1D [] (spR0 C_0 iNothing)) (m_a : mg "three_of" = some (.ref f_8)) (G_9 : Ok P w K mg base 2 f_8 ["word"] (spN fun w => ((Sg08.bits w 14 12 : Nat) : Int))) (m_3 : mg "of_reserved" = some (.ref f_3)) (G_3 : Ok P w K mg base 4 f_3 [] (spR0 C_0 (iStop "reserved"))) : Ok P w K mg base 5 f_I ["word"] (spRd C_0 (fun w => Sg08.bits w 6 0 = 15) fun w => insO (Sg08.long w)) := by
  refine D.ok sc_1x spRd_len fun cdv A outer s H vs Q E hr h => ?_
  refine ⟨_, (pss_cons (ps_if (pt_cmpR op_ne (pe_g m_a G_9 hr (pa_cons (pv 0) pa_nil)) pe_int (nomark _)) (pss_one (ps_ret (pe_g0 m_3 G_3 hr))) pss_nil) (pss_one (ps_ret (pe_g0 m_13 G_H hr)))), ?_⟩
  obtain ⟨n, rfl, h1, q⟩ := h
  replace q : RetI C_0 H Q (insO (Sg08.long n)) := q
  rw [long_0F h1] at q
  refine ⟨_, rfl, n, rfl, rfl, _, rfl, ?_⟩
  refine ite2 (fun e => ?_) fun e => ?_
  · rw [if_neg (tne (b := 0) e)] at q
    exact ⟨rfl, q⟩
  · rw [if_pos (tneF (b := 0) e)] at q
    exact ⟨rfl, q⟩
theorem sc_r : FnScope ["word", "name"] ["word"] (defScope (top 91)) := ⟨rfl, rfl, rfl, by decide +kernel, rfl, by decide +kernel, by decide +kernel⟩
theorem ok_14 {f_J f_o C_0 f_3 a_l : Addr} (D : Def K "read_system" "read_system" (top 91) ["word"] f_J) (m_r : mg "of_stop" = some (.ref f_o)) (G_q : Ok P w K mg base 3 f_o ["name"] (spR1 C_0 iStop)) (m_3 : mg "of_reserved" = some (.ref f_3)) (G_3 : Ok P w K mg base 4 f_3 [] (spR0 C_0 (iStop "reserved"))) (m_14 : mg "SYSTEM_STOPS" = some (.ref a_l)) (k_4 : KD P w K a_l kv_9) : Ok P w K mg base 5 f_J ["word"] (spRd C_0 (fun w => Sg08.bits w 6 0 = 115) fun w => insO (Sg08.long w)) := by
  refine D.ok sc_r spRd_len fun cdv A outer s H vs Q E hr h => ?_
  have hu := hu_of hr
  refine ⟨_, (pss_cons (ps_set (i := 1) sc_r.nd rfl (Or.inl rfl) (pe_kget1 hu (pe_glob (v := .ref a_l) rfl m_14 rfl) (pv 0) ⟨rfl, rfl, rfl, rfl⟩)) (pss_cons (ps_if (pt_cmp (pc_isN (pv 1))) (pss_one (ps_ret (pe_g0 m_3 G_3 hr))) pss_nil) (pss_one (ps_ret (pe_g m_r G_q hr (pa_cons (pv 1) pa_nil)))))), ?_⟩
  obtain ⟨n, rfl, h1, q⟩ := h
  replace q : RetI C_0 H Q (insO (Sg08.long n)) := q
  rw [long_73 h1] at q
  have ek := sys_tab n
  by_cases e : n = 115
  · rw [if_pos e] at q ek
    exact ⟨_, rfl, .inl ⟨_, k_4⟩, _, rfl, some _, .inl ⟨_, .inl _, k_4, rfl, ek.symm⟩, _, rfl, _, rfl, iteF ⟨_, rfl, _, rfl, q⟩⟩
  · rw [if_neg e] at q ek
    by_cases e2 : n = 1048691
    · rw [if_pos e2] at q ek
      exact ⟨_, rfl, .inl ⟨_, k_4⟩, _, rfl, some _, .inl ⟨_, .inl _, k_4, rfl, ek.symm⟩, _, rfl, _, rfl, iteF ⟨_, rfl, _, rfl, q⟩⟩
    · rw [if_neg e2] at q ek
      exact ⟨_, rfl, .inl ⟨_, k_4⟩, _, rfl, Option.none, .inl ⟨_, .inl _, k_4, rfl, ek.symm⟩, _, rfl, _, rfl, iteT ⟨rfl, q⟩⟩
theorem sc_s : FnScope ["word", "opcode"] ["word"] (defScope (top 93)) := ⟨rfl, rfl, rfl, by decide +kernel, rfl, by decide +kernel, by decide +kernel⟩
theorem ok_15 {f_1G a_5 f_3 C_0 f_0 f_C f_I f_E f_y f_F f_D f_G f_x f_H f_B f_A f_z f_J : Addr} (D : Def K "read_long" "read_long" (top 93) ["word"] f_1G) (m_J : mg "READERS_long_words" = some (.ref a_5)) (m_3 : mg "of_reserved" = some (.ref f_3)) (G_3 : Ok P w K mg base 4 f_3 [] (spR0 C_0 (iStop "reserved"))) (m_0 : mg "field" = some (.ref f_0)) (G_0 : Ok P w K mg base 1 f_0 ["word", "low", "width"] spField) (k_2 : KD P w K a_5 [(.inl 3, .ref f_C), (.inl 15, .ref f_I), (.inl 19, .ref f_E), (.inl 23, .ref f_y), (.inl 27, .ref f_F), (.inl 35, .ref f_D), (.inl 51, .ref f_G), (.inl 55, .ref f_x), (.inl 59, .ref f_H), (.inl 99, .ref f_B), (.inl 103, .ref f_A), (.inl 111, .ref f_z), (.inl 115, .ref f_J)]) (G_I : Ok P w K mg base 5 f_C ["word"] (spRd C_0 (fun w => Sg08.bits w 6 0 = 3) fun w => insO (Sg08.long w))) (G_J : Ok P w K mg base 5 f_I ["word"] (spRd C_0 (fun w => Sg08.bits w 6 0 = 15) fun w => insO (Sg08.long w))) (G_K : Ok P w K mg base 6 f_E ["word"] (spRd C_0 (fun w => Sg08.bits w 6 0 = 19) fun w => insO (Sg08.long w))) (G_L : Ok P w K mg base 5 f_y ["word"] (spRd C_0 (fun w => Sg08.bits w 6 0 = 23) fun w => insO (Sg08.long w))) (G_M : Ok P w K mg base 6 f_F ["word"] (spRd C_0 (fun w => Sg08.bits w 6 0 = 27) fun w => insO (Sg08.long w))) (G_N : Ok P w K mg base 5 f_D ["word"] (spRd C_0 (fun w => Sg08.bits w 6 0 = 35) fun w => insO (Sg08.long w))) (G_O : Ok P w K mg base 5 f_G ["word"] (spRd C_0 (fun w => Sg08.bits w 6 0 = 51) fun w => insO (Sg08.long w))) (G_P : Ok P w K mg base 5 f_x ["word"] (spRd C_0 (fun w => Sg08.bits w 6 0 = 55) fun w => insO (Sg08.long w))) (G_Q : Ok P w K mg base 5 f_H ["word"] (spRd C_0 (fun w => Sg08.bits w 6 0 = 59) fun w => insO (Sg08.long w))) (G_R : Ok P w K mg base 5 f_B ["word"] (spRd C_0 (fun w => Sg08.bits w 6 0 = 99) fun w => insO (Sg08.long w))) (G_S : Ok P w K mg base 5 f_A ["word"] (spRd C_0 (fun w => Sg08.bits w 6 0 = 103) fun w => insO (Sg08.long w))) (G_T : Ok P w K mg base 4 f_z ["word"] (spRd C_0 (fun w => Sg08.bits w 6 0 = 111) fun w => insO (Sg08.long w))) (G_U : Ok P w K mg base 5 f_J ["word"] (spRd C_0 (fun w => Sg08.bits w 6 0 = 115) fun w => insO (Sg08.long w))) : Ok P w K mg base 7 f_1G ["word"] (spRd C_0 (fun _ => True) fun w => insO (Sg08.long w)) := by
  refine D.ok sc_s spRd_len fun cdv A outer s H vs Q E hr h => ?_
  have hu := hu_of hr
  refine ⟨_, (pss_cons (ps_set (i := 1) sc_s.nd rfl (Or.inl rfl) (pe_g m_0 G_0 hr (pa_cons (pv 0) (pa_cons pe_int (pa_cons pe_int pa_nil))))) (pss_cons (ps_if (pt_cmp (pc_knotin hu (pv 1) (pe_glob (v := .ref a_5) rfl m_J rfl)) rfl) (pss_one (ps_ret (pe_g0 m_3 G_3 hr))) pss_nil) (pss_one (ps_ret (pe_callE (pe_kget hu (pe_glob (v := .ref a_5) rfl m_J rfl) (pv 1) (fun _ _ => rfl)) hr (pa_cons (pv 0) pa_nil)))))), ?_⟩
  obtain ⟨n, rfl, -, q⟩ := h
  replace q : RetI C_0 H Q (insO (Sg08.long n)) := q
  have ef : fieldZ (n : Int) 0 7 = ((Sg08.bits n 6 0 : Nat) : Int) := fieldZ_nat n 0 7
  rcases (show Sg08.bits n 6 0 = 3 ∨ Sg08.bits n 6 0 = 15 ∨ Sg08.bits n 6 0 = 19 ∨ Sg08.bits n 6 0 = 23 ∨ Sg08.bits n 6 0 = 27 ∨ Sg08.bits n 6 0 = 35 ∨ Sg08.bits n 6 0 = 51 ∨ Sg08.bits n 6 0 = 55 ∨ Sg08.bits n 6 0 = 59 ∨ Sg08.bits n 6 0 = 99 ∨ Sg08.bits n 6 0 = 103 ∨ Sg08.bits n 6 0 = 111 ∨ Sg08.bits n 6 0 = 115 ∨ (Sg08.bits n 6 0 ≠ 3 ∧ Sg08.bits n 6 0 ≠ 15 ∧ Sg08.bits n 6 0 ≠ 19 ∧ Sg08.bits n 6 0 ≠ 23 ∧ Sg08.bits n 6 0 ≠ 27 ∧ Sg08.bits n 6 0 ≠ 35 ∧ Sg08.bits n 6 0 ≠ 51 ∧ Sg08.bits n 6 0 ≠ 55 ∧ Sg08.bits n 6 0 ≠ 59 ∧ Sg08.bits n 6 0 ≠ 99 ∧ Sg08.bits n 6 0 ≠ 103 ∧ Sg08.bits n 6 0 ≠ 111 ∧ Sg08.bits n 6 0 ≠ 115) by omega) with e | e | e | e | e | e | e | e | e | e | e | e | e | e
  · have ev : V.int (fieldZ (n : Int) 0 7) = V.int 3 := congrArg V.int (by rw [ef, e]; rfl)
    exact ⟨_, rfl, _, _, _, rfl, ⟨by decide, by decide, by decide⟩, _, rfl, _, some (.ref f_C), rfl, .inl ⟨_, .inl 3, k_2, ev, rfl⟩, _, rfl, iteF ⟨_, rfl, _, .ref f_C, rfl, .inl ⟨_, .inl 3, k_2, ev, rfl⟩, _, _, _, _, rfl, by decide, G_I, _, rfl, n, rfl, e, q⟩⟩
  · have ev : V.int (fieldZ (n : Int) 0 7) = V.int 15 := congrArg V.int (by rw [ef, e]; rfl)
    exact ⟨_, rfl, _, _, _, rfl, ⟨by decide, by decide, by decide⟩, _, rfl, _, some (.ref f_I), rfl, .inl ⟨_, .inl 15, k_2, ev, rfl⟩, _, rfl, iteF ⟨_, rfl, _, .ref f_I, rfl, .inl ⟨_, .inl 15, k_2, ev, rfl⟩, _, _, _, _, rfl, by decide, G_J, _, rfl, n, rfl, e, q⟩⟩
  · have ev : V.int (fieldZ (n : Int) 0 7) = V.int 19 := congrArg V.int (by rw [ef, e]; rfl)
    exact ⟨_, rfl, _, _, _, rfl, ⟨by decide, by decide, by decide⟩, _, rfl, _, some (.ref f_E), rfl, .inl ⟨_, .inl 19, k_2, ev, rfl⟩, _, rfl, iteF ⟨_, rfl, _, .ref f_E, rfl, .inl ⟨_, .inl 19, k_2, ev, rfl⟩, _, _, _, _, rfl, by decide, G_K, _, rfl, n, rfl, e, q⟩⟩
  · have ev : V.int (fieldZ (n : Int) 0 7) = V.int 23 := congrArg V.int (by rw [ef, e]; rfl)
    exact ⟨_, rfl, _, _, _, rfl, ⟨by decide, by decide, by decide⟩, _, rfl, _, some (.ref f_y), rfl, .inl ⟨_, .inl 23, k_2, ev, rfl⟩, _, rfl, iteF ⟨_, rfl, _, .ref f_y, rfl, .inl ⟨_, .inl 23, k_2, ev, rfl⟩, _, _, _, _, rfl, by decide, G_L, _, rfl, n, rfl, e, q⟩⟩
  · have ev : V.int (fieldZ (n : Int) 0 7) = V.int 27 := congrArg V.int (by rw [ef, e]; rfl)
    exact ⟨_, rfl, _, _, _, rfl, ⟨by decide, by decide, by decide⟩, _, rfl, _, some (.ref f_F), rfl, .inl ⟨_, .inl 27, k_2, ev, rfl⟩, _, rfl, iteF ⟨_, rfl, _, .ref f_F, rfl, .inl ⟨_, .inl 27, k_2, ev, rfl⟩, _, _, _, _, rfl, by decide, G_M, _, rfl, n, rfl, e, q⟩⟩
  · have ev : V.int (fieldZ (n : Int) 0 7) = V.int 35 := congrArg V.int (by rw [ef, e]; rfl)
    exact ⟨_, rfl, _, _, _, rfl, ⟨by decide, by decide, by decide⟩, _, rfl, _, some (.ref f_D), rfl, .inl ⟨_, .inl 35, k_2, ev, rfl⟩, _, rfl, iteF ⟨_, rfl, _, .ref f_D, rfl, .inl ⟨_, .inl 35, k_2, ev, rfl⟩, _, _, _, _, rfl, by decide, G_N, _, rfl, n, rfl, e, q⟩⟩
  · have ev : V.int (fieldZ (n : Int) 0 7) = V.int 51 := congrArg V.int (by rw [ef, e]; rfl)
    exact ⟨_, rfl, _, _, _, rfl, ⟨by decide, by decide, by decide⟩, _, rfl, _, some (.ref f_G), rfl, .inl ⟨_, .inl 51, k_2, ev, rfl⟩, _, rfl, iteF ⟨_, rfl, _, .ref f_G, rfl, .inl ⟨_, .inl 51, k_2, ev, rfl⟩, _, _, _, _, rfl, by decide, G_O, _, rfl, n, rfl, e, q⟩⟩
  · have ev : V.int (fieldZ (n : Int) 0 7) = V.int 55 := congrArg V.int (by rw [ef, e]; rfl)
    exact ⟨_, rfl, _, _, _, rfl, ⟨by decide, by decide, by decide⟩, _, rfl, _, some (.ref f_x), rfl, .inl ⟨_, .inl 55, k_2, ev, rfl⟩, _, rfl, iteF ⟨_, rfl, _, .ref f_x, rfl, .inl ⟨_, .inl 55, k_2, ev, rfl⟩, _, _, _, _, rfl, by decide, G_P, _, rfl, n, rfl, e, q⟩⟩
  · have ev : V.int (fieldZ (n : Int) 0 7) = V.int 59 := congrArg V.int (by rw [ef, e]; rfl)
    exact ⟨_, rfl, _, _, _, rfl, ⟨by decide, by decide, by decide⟩, _, rfl, _, some (.ref f_H), rfl, .inl ⟨_, .inl 59, k_2, ev, rfl⟩, _, rfl, iteF ⟨_, rfl, _, .ref f_H, rfl, .inl ⟨_, .inl 59, k_2, ev, rfl⟩, _, _, _, _, rfl, by decide, G_Q, _, rfl, n, rfl, e, q⟩⟩
  · have ev : V.int (fieldZ (n : Int) 0 7) = V.int 99 := congrArg V.int (by rw [ef, e]; rfl)
    exact ⟨_, rfl, _, _, _, rfl, ⟨by decide, by decide, by decide⟩, _, rfl, _, some (.ref f_B), rfl, .inl ⟨_, .inl 99, k_2, ev, rfl⟩, _, rfl, iteF ⟨_, rfl, _, .ref f_B, rfl, .inl ⟨_, .inl 99, k_2, ev, rfl⟩, _, _, _, _, rfl, by decide, G_R, _, rfl, n, rfl, e, q⟩⟩
  · have ev : V.int (fieldZ (n : Int) 0 7) = V.int 103 := congrArg V.int (by rw [ef, e]; rfl)
    exact ⟨_, rfl, _, _, _, rfl, ⟨by decide, by decide, by decide⟩, _, rfl, _, some (.ref f_A), rfl, .inl ⟨_, .inl 103, k_2, ev, rfl⟩, _, rfl, iteF ⟨_, rfl, _, .ref f_A, rfl, .inl ⟨_, .inl 103, k_2, ev, rfl⟩, _, _, _, _, rfl, by decide, G_S, _, rfl, n, rfl, e, q⟩⟩
  · have ev : V.int (fieldZ (n : Int) 0 7) = V.int 111 := congrArg V.int (by rw [ef, e]; rfl)
    exact ⟨_, rfl, _, _, _, rfl, ⟨by decide, by decide, by decide⟩, _, rfl, _, some (.ref f_z), rfl, .inl ⟨_, .inl 111, k_2, ev, rfl⟩, _, rfl, iteF ⟨_, rfl, _, .ref f_z, rfl, .inl ⟨_, .inl 111, k_2, ev, rfl⟩, _, _, _, _, rfl, by decide, G_T, _, rfl, n, rfl, e, q⟩⟩
  · have ev : V.int (fieldZ (n : Int) 0 7) = V.int 115 := congrArg V.int (by rw [ef, e]; rfl)
    exact ⟨_, rfl, _, _, _, rfl, ⟨by decide, by decide, by decide⟩, _, rfl, _, some (.ref f_J), rfl, .inl ⟨_, .inl 115, k_2, ev, rfl⟩, _, rfl, iteF ⟨_, rfl, _, .ref f_J, rfl, .inl ⟨_, .inl 115, k_2, ev, rfl⟩, _, _, _, _, rfl, by decide, G_U, _, rfl, n, rfl, e, q⟩⟩
  · have el : Sg08.long n = none := long_no (by intro k hk; simp at hk; omega)
    rw [el] at q
    exact ⟨_, rfl, _, _, _, rfl, ⟨by decide, by decide, by decide⟩, _, rfl, _, Option.none, rfl, .inl ⟨_, .inl _, k_2, rfl, (by rw [ef]; exact (valV_none (by intro hm; simp at hm; omega)).symm)⟩, _, rfl, iteT ⟨rfl, q⟩⟩
end
end Sp8
end
section
namespace Sp8
open PySem PySem.Spec PyProof.Rows L2
open Sg08 (Alu WORD Instr)
theorem teqZ {z : Int} {a b : Nat} (hz : z = (a : Int)) (h : decide (V.int z = V.int (b : Int)) = true) : a = b := by subst hz; exact teq h
theorem teqFZ {z : Int} {a b : Nat} (hz : z = (a : Int)) (h : ¬ decide (V.int z = V.int (b : Int)) = true) : ¬ a = b := by subst hz; exact teqF h
theorem near_eq (n lo : Nat) : (8 : Int) + fieldZ (n : Int) (lo : Int) 3 = ((Sg08.near n lo : Nat) : Int) := by
  rw [show fieldZ (n : Int) (lo : Int) 3 = _ from fieldZ_nat n lo 3]
  unfold Sg08.near Sg08.bits
  rw [show lo + 2 + 1 - lo = 3 by omega]
  rfl
theorem small_tab' : ∀ a < 2, ∀ b < 4, valV kv_a [.inl ((a : Nat) : Int), .inl ((b : Nat) : Int)] = (smallOf a b).map fun o => .str (aluN o) := by decide +kernel
theorem small_tab (n : Nat) : valV kv_a [.inl (fieldZ (n : Int) 12 1), .inl (fieldZ (n : Int) 5 2)] = (smallOf (Sg08.bits n 12 12) (Sg08.bits n 6 5)).map fun o => .str (aluN o) := by
  rw [show fieldZ (n : Int) 12 1 = _ from fieldZ_nat n 12 1, show fieldZ (n : Int) 5 2 = _ from fieldZ_nat n 5 2]; exact small_tab' _ (bits_lt n 12 12) _ (bits_lt n 6 5)
theorem sa_lt (n : Nat) : Sg08.bits n 12 11 * 16 + Sg08.bits n 10 7 * 64 + Sg08.at_ n 6 2 + Sg08.at_ n 5 3 < 18446744073709551616 := by
  have := bits_lt n 12 11; have := bits_lt n 10 7; unfold Sg08.at_; omega
theorem w_lt (n : Nat) : Sg08.immW n < 18446744073709551616 := by
  unfold Sg08.immW Sg08.at_; have := bits_lt n 12 10; omega
theorem d_lt (n : Nat) : Sg08.immD n < 18446744073709551616 := by
  unfold Sg08.immD; have := bits_lt n 12 10; have := bits_lt n 6 5; omega
theorem slw_lt (n : Nat) : Sg08.at_ n 12 5 + Sg08.bits n 6 4 * 4 + Sg08.bits n 3 2 * 64 < 18446744073709551616 := by
  unfold Sg08.at_; have := bits_lt n 6 4; have := bits_lt n 3 2; omega
theorem sld_lt (n : Nat) : Sg08.at_ n 12 5 + Sg08.bits n 6 5 * 8 + Sg08.bits n 4 2 * 64 < 18446744073709551616 := by
  unfold Sg08.at_; have := bits_lt n 6 5; have := bits_lt n 4 2; omega
theorem ssw_lt (n : Nat) : Sg08.bits n 12 9 * 4 + Sg08.bits n 8 7 * 64 < 18446744073709551616 := by
  have := bits_lt n 12 9; have := bits_lt n 8 7; omega
theorem ssd_lt (n : Nat) : Sg08.bits n 12 10 * 8 + Sg08.bits n 9 7 * 64 < 18446744073709551616 := by
  have := bits_lt n 12 10; have := bits_lt n 9 7; omega
end Sp8
end
section
namespace Sp8
open PySem PySem.Spec PyProof.Rows L2
open Sg08 (Alu WORD Machine Instr)
section
variable {P : Program} {w : World} {K : PySem.W.Frag} {mg : Str → Option Value} {base : Heap}
theorem sc_1y : FnScope ["half"] ["half"] (defScope (top 110)) := ⟨rfl, rfl, rfl, by decide +kernel, rfl, by decide +kernel, by decide +kernel⟩
theorem ok_16 {f_a f_0 : Addr} (D : Def K "full_at_7" "full_at_7" (top 110) ["half"] f_a) (m_0 : mg "field" = some (.ref f_0)) (G_0 : Ok P w K mg base 1 f_0 ["word", "low", "width"] spField) : Ok P w K mg base 2 f_a ["half"] (spN fun w => ((Sg08.bits w 11 7 : Nat) : Int)) := by
  refine D.ok sc_1y spN_len fun cdv A outer s H vs Q E hr h => ?_
  refine ⟨_, (pss_one (ps_ret (pe_g m_0 G_0 hr (pa_cons (pv 0) (pa_cons pe_int (pa_cons pe_int pa_nil)))))), ?_⟩
  obtain ⟨n, rfl, q⟩ := h
  exact ⟨_, rfl, _, _, _, rfl, ⟨by decide, by decide, by decide⟩, qe (congrArg V.int (fieldZ_nat n 7 5)) q⟩
theorem sc_1z : FnScope ["half"] ["half"] (defScope (top 111)) := ⟨rfl, rfl, rfl, by decide +kernel, rfl, by decide +kernel, by decide +kernel⟩
theorem ok_17 {f_k f_0 : Addr} (D : Def K "full_at_2" "full_at_2" (top 111) ["half"] f_k) (m_0 : mg "field" = some (.ref f_0)) (G_0 : Ok P w K mg base 1 f_0 ["word", "low", "width"] spField) : Ok P w K mg base 2 f_k ["half"] (spN fun w => ((Sg08.bits w 6 2 : Nat) : Int)) := by
  refine D.ok sc_1z spN_len fun cdv A outer s H vs Q E hr h => ?_
  refine ⟨_, (pss_one (ps_ret (pe_g m_0 G_0 hr (pa_cons (pv 0) (pa_cons pe_int (pa_cons pe_int pa_nil)))))), ?_⟩
  obtain ⟨n, rfl, q⟩ := h
  exact ⟨_, rfl, _, _, _, rfl, ⟨by decide, by decide, by decide⟩, qe (congrArg V.int (fieldZ_nat n 2 5)) q⟩
theorem sc_1A : FnScope ["half"] ["half"] (defScope (top 112)) := ⟨rfl, rfl, rfl, by decide +kernel, rfl, by decide +kernel, by decide +kernel⟩
theorem ok_18 {f_b f_0 : Addr} (D : Def K "small_at_7" "small_at_7" (top 112) ["half"] f_b) (m_0 : mg "field" = some (.ref f_0)) (G_0 : Ok P w K mg base 1 f_0 ["word", "low", "width"] spField) : Ok P w K mg base 2 f_b ["half"] (spN fun w => ((Sg08.near w 7 : Nat) : Int)) := by
  refine D.ok sc_1A spN_len fun cdv A outer s H vs Q E hr h => ?_
  refine ⟨_, (pss_one (ps_ret (pe_op op_add pe_int (pe_g m_0 G_0 hr (pa_cons (pv 0) (pa_cons pe_int (pa_cons pe_int pa_nil))))))), ?_⟩
  obtain ⟨n, rfl, q⟩ := h
  exact ⟨_, rfl, _, _, _, rfl, ⟨by decide, by decide, by decide⟩, _, _, rfl, rfl, qe (congrArg V.int (near_eq n 7)) q⟩
theorem sc_1B : FnScope ["half"] ["half"] (defScope (top 113)) := ⟨rfl, rfl, rfl, by decide +kernel, rfl, by decide +kernel, by decide +kernel⟩
theorem ok_19 {f_c f_0 : Addr} (D : Def K "small_at_2" "small_at_2" (top 113) ["half"] f_c) (m_0 : mg "field" = some (.ref f_0)) (G_0 : Ok P w K mg base 1 f_0 ["word", "low", "width"] spField) : Ok P w K mg base 2 f_c ["half"] (spN fun w => ((Sg08.near w 2 : Nat) : Int)) := by
  refine D.ok sc_1B spN_len fun cdv A outer s H vs Q E hr h => ?_
  refine ⟨_, (pss_one (ps_ret (pe_op op_add pe_int (pe_g m_0 G_0 hr (pa_cons (pv 0) (pa_cons pe_int (pa_cons pe_int pa_nil))))))), ?_⟩
  obtain ⟨n, rfl, q⟩ := h
  exact ⟨_, rfl, _, _, _, rfl, ⟨by decide, by decide, by decide⟩, _, _, rfl, rfl, qe (congrArg V.int (near_eq n 2)) q⟩
theorem sc_1C : FnScope ["half"] ["half"] (defScope (top 114)) := ⟨rfl, rfl, rfl, by decide +kernel, rfl, by decide +kernel, by decide +kernel⟩
theorem ok_1a {f_l f_1 f_2 a_0 : Addr} (D : Def K "plain_immediate" "plain_immediate" (top 114) ["half"] f_l) (m_1 : mg "extend" = some (.ref f_1)) (G_1 : Ok P w K mg base 3 f_1 ["number", "width"] spExtend) (m_2 : mg "gather" = some (.ref f_2)) (G_2 : Ok P w K mg base 2 f_2 ["word", "pieces"] (spGather K)) (m_B : mg "PLAIN_PIECES_short_words" = some (.ref a_0)) (p_0 : Pcs K a_0 [(2, 5, 0), (12, 1, 5)]) : Ok P w K mg base 4 f_l ["half"] (spN fun w => ((Sg08.wrap (Sg08.signed 6 (Sg08.imm6 w)) : Nat) : Int)) := by
  refine D.ok sc_1C spN_len fun cdv A outer s H vs Q E hr h => ?_
  refine ⟨_, (pss_one (ps_ret (pe_g m_1 G_1 hr (pa_cons (pe_g m_2 G_2 hr (pa_cons (pv 0) (pa_cons (pe_glob (v := .ref a_0) rfl m_B rfl) pa_nil))) (pa_cons pe_int pa_nil))))), ?_⟩
  obtain ⟨n, rfl, q⟩ := h
  exact ⟨_, rfl, n, _, _, rfl, p_0, by decide, _, _, rfl, ⟨by decide, by decide⟩, qe (congrArg V.int (by rw [g_p]; exact extendZ_nat _ 5)) q⟩
theorem sc_1D : FnScope ["half"] ["half"] (defScope (top 116)) := ⟨rfl, rfl, rfl, by decide +kernel, rfl, by decide +kernel, by decide +kernel⟩
theorem ok_1b {f_u f_2 a_0 : Addr} (D : Def K "shift_amount" "shift_amount" (top 116) ["half"] f_u) (m_2 : mg "gather" = some (.ref f_2)) (G_2 : Ok P w K mg base 2 f_2 ["word", "pieces"] (spGather K)) (m_B : mg "PLAIN_PIECES_short_words" = some (.ref a_0)) (p_0 : Pcs K a_0 [(2, 5, 0), (12, 1, 5)]) : Ok P w K mg base 3 f_u ["half"] (spN fun w => ((Sg08.imm6 w : Nat) : Int)) := by
  refine D.ok sc_1D spN_len fun cdv A outer s H vs Q E hr h => ?_
  refine ⟨_, (pss_one (ps_ret (pe_g m_2 G_2 hr (pa_cons (pv 0) (pa_cons (pe_glob (v := .ref a_0) rfl m_B rfl) pa_nil))))), ?_⟩
  obtain ⟨n, rfl, q⟩ := h
  exact ⟨_, rfl, n, _, _, rfl, p_0, by decide, qe (congrArg V.int (congrArg _ (g_p n))) q⟩
theorem sc_t : FnScope ["half", "immediate"] ["half"] (defScope (top 117)) := ⟨rfl, rfl, rfl, by decide +kernel, rfl, by decide +kernel, by decide +kernel⟩
theorem ok_1c {f_K f_5 C_0 f_c f_3 f_2 a_m : Addr} {t_6 : Tok} (D : Def K "read_stack_address" "read_stack_address" (top 117) ["half"] f_K) (m_6 : mg "of_immediate" = some (.ref f_5)) (G_6 : Ok P w K mg base 3 f_5 ["name", "target", "first", "immediate"] (spR4 C_0 iImm)) (m_e : mg "STACK_POINTER" = some (.int 2 t_6)) (m_f : mg "small_at_2" = some (.ref f_c)) (G_f : Ok P w K mg base 2 f_c ["half"] (spN fun w => ((Sg08.near w 2 : Nat) : Int))) (m_3 : mg "of_reserved" = some (.ref f_3)) (G_3 : Ok P w K mg base 4 f_3 [] (spR0 C_0 (iStop "reserved"))) (m_2 : mg "gather" = some (.ref f_2)) (G_2 : Ok P w K mg base 2 f_2 ["word", "pieces"] (spGather K)) (m_15 : mg "STACK_ADDRESS_PIECES" = some (.ref a_m)) (p_9 : Pcs K a_m [(5, 1, 3), (6, 1, 2), (7, 4, 6), (11, 2, 4)]) : Ok P w K mg base 5 f_K ["half"] (spRd C_0 (fun w => Sg08.bits w 1 0 = 0 ∧ Sg08.bits w 15 13 = 0) fun w => insO (Sg08.short w)) := by
  refine D.ok sc_t spRd_len fun cdv A outer s H vs Q E hr h => ?_
  refine ⟨_, (pss_cons (ps_set (i := 1) sc_t.nd rfl (Or.inl rfl) (pe_g m_2 G_2 hr (pa_cons (pv 0) (pa_cons (pe_glob (v := .ref a_m) rfl m_15 rfl) pa_nil)))) (pss_cons (ps_if (pt_cmpR op_eq (pv 1) pe_int (nomark _)) (pss_one (ps_ret (pe_g0 m_3 G_3 hr))) pss_nil) (pss_one (ps_ret (pe_g m_6 G_6 hr (pa_cons pe_str (pa_cons (pe_g m_f G_f hr (pa_cons (pv 0) pa_nil)) (pa_cons (pe_glob (v := .int 2) rfl m_e ⟨_, rfl⟩) (pa_cons (pv 1) pa_nil))))))))), ?_⟩
  obtain ⟨n, rfl, ⟨h1, h2⟩, q⟩ := h
  replace q : RetI C_0 H Q (insO (Sg08.short n)) := q
  
  rw [short_00 h1 h2] at q
  refine ⟨_, rfl, n, _, _, rfl, p_9, by decide, _, rfl, rfl, _, rfl, ?_⟩
  refine ite2 (fun e => ?_) fun e => ?_
  · rw [if_pos (by rw [← g_sa]; exact teq (b := 0) e)] at q
    exact ⟨rfl, q⟩
  · rw [if_neg (by rw [← g_sa]; exact teqF (b := 0) e)] at q
    refine ⟨_, rfl, n, rfl, _, rfl, _, _, _, _, rfl, ?_⟩
    replace q : RetI C_0 H Q (iImm "add" _ _ ((Sg08.wrap ((_ : Nat) : Int) : Nat) : Int)) := q
    rw [wrap_nat (sa_lt n)] at q
    rw [g_sa]
    exact q
theorem sc_1E : FnScope ["half"] ["half"] (defScope (top 118)) := ⟨rfl, rfl, rfl, by decide +kernel, rfl, by decide +kernel, by decide +kernel⟩
theorem ok_1d {f_L f_f C_0 f_2 a_1 f_b f_c : Addr} (D : Def K "read_load_word" "read_load_word" (top 118) ["half"] f_L) (m_j : mg "of_load" = some (.ref f_f)) (G_i : Ok P w K mg base 3 f_f ["name", "target", "first", "immediate"] (spR4 C_0 iLoad)) (m_2 : mg "gather" = some (.ref f_2)) (G_2 : Ok P w K mg base 2 f_2 ["word", "pieces"] (spGather K)) (m_C : mg "WORD_PIECES" = some (.ref a_1)) (m_d : mg "small_at_7" = some (.ref f_b)) (G_c : Ok P w K mg base 2 f_b ["half"] (spN fun w => ((Sg08.near w 7 : Nat) : Int))) (m_f : mg "small_at_2" = some (.ref f_c)) (G_f : Ok P w K mg base 2 f_c ["half"] (spN fun w => ((Sg08.near w 2 : Nat) : Int))) (p_1 : Pcs K a_1 [(5, 1, 6), (6, 1, 2), (10, 3, 3)]) : Ok P w K mg base 4 f_L ["half"] (spRd C_0 (fun w => Sg08.bits w 1 0 = 0 ∧ Sg08.bits w 15 13 = 2) fun w => insO (Sg08.short w)) := by
  refine D.ok sc_1E spRd_len fun cdv A outer s H vs Q E hr h => ?_
  refine ⟨_, (pss_one (ps_ret (pe_g m_j G_i hr (pa_cons pe_str (pa_cons (pe_g m_f G_f hr (pa_cons (pv 0) pa_nil)) (pa_cons (pe_g m_d G_c hr (pa_cons (pv 0) pa_nil)) (pa_cons (pe_g m_2 G_2 hr (pa_cons (pv 0) (pa_cons (pe_glob (v := .ref a_1) rfl m_C rfl) pa_nil))) pa_nil))))))), ?_⟩
  obtain ⟨n, rfl, ⟨h1, h2⟩, q⟩ := h
  replace q : RetI C_0 H Q (insO (Sg08.short n)) := q
  
  rw [short_02 h1 h2] at q
  refine ⟨_, rfl, n, rfl, _, rfl, n, rfl, _, rfl, n, _, _, rfl, p_1, by decide, _, _, _, _, rfl, ?_⟩
  replace q : RetI C_0 H Q (iLoad _ _ _ ((Sg08.wrap ((_ : Nat) : Int) : Nat) : Int)) := q
  rw [wrap_nat (w_lt n)] at q
  rw [g_w]
  exact q
theorem sc_1F : FnScope ["half"] ["half"] (defScope (top 119)) := ⟨rfl, rfl, rfl, by decide +kernel, rfl, by decide +kernel, by decide +kernel⟩
theorem ok_1e {f_M f_f C_0 f_2 a_2 f_b f_c : Addr} (D : Def K "read_load_double" "read_load_double" (top 119) ["half"] f_M) (m_j : mg "of_load" = some (.ref f_f)) (G_i : Ok P w K mg base 3 f_f ["name", "target", "first", "immediate"] (spR4 C_0 iLoad)) (m_2 : mg "gather" = some (.ref f_2)) (G_2 : Ok P w K mg base 2 f_2 ["word", "pieces"] (spGather K)) (m_D : mg "DOUBLE_PIECES" = some (.ref a_2)) (m_d : mg "small_at_7" = some (.ref f_b)) (G_c : Ok P w K mg base 2 f_b ["half"] (spN fun w => ((Sg08.near w 7 : Nat) : Int))) (m_f : mg "small_at_2" = some (.ref f_c)) (G_f : Ok P w K mg base 2 f_c ["half"] (spN fun w => ((Sg08.near w 2 : Nat) : Int))) (p_2 : Pcs K a_2 [(5, 2, 6), (10, 3, 3)]) : Ok P w K mg base 4 f_M ["half"] (spRd C_0 (fun w => Sg08.bits w 1 0 = 0 ∧ Sg08.bits w 15 13 = 3) fun w => insO (Sg08.short w)) := by
  refine D.ok sc_1F spRd_len fun cdv A outer s H vs Q E hr h => ?_
  refine ⟨_, (pss_one (ps_ret (pe_g m_j G_i hr (pa_cons pe_str (pa_cons (pe_g m_f G_f hr (pa_cons (pv 0) pa_nil)) (pa_cons (pe_g m_d G_c hr (pa_cons (pv 0) pa_nil)) (pa_cons (pe_g m_2 G_2 hr (pa_cons (pv 0) (pa_cons (pe_glob (v := .ref a_2) rfl m_D rfl) pa_nil))) pa_nil))))))), ?_⟩
  obtain ⟨n, rfl, ⟨h1, h2⟩, q⟩ := h
  replace q : RetI C_0 H Q (insO (Sg08.short n)) := q
  
  rw [short_03 h1 h2] at q
  refine ⟨_, rfl, n, rfl, _, rfl, n, rfl, _, rfl, n, _, _, rfl, p_2, by decide, _, _, _, _, rfl, ?_⟩
  replace q : RetI C_0 H Q (iLoad _ _ _ ((Sg08.wrap ((_ : Nat) : Int) : Nat) : Int)) := q
  rw [wrap_nat (d_lt n)] at q
  rw [g_d]
  exact q
theorem sc_1G : FnScope ["half"] ["half"] (defScope (top 120)) := ⟨rfl, rfl, rfl, by decide +kernel, rfl, by decide +kernel, by decide +kernel⟩
theorem ok_1f {f_N f_g C_0 f_2 a_1 f_c f_b : Addr} (D : Def K "read_store_word" "read_store_word" (top 120) ["half"] f_N) (m_k : mg "of_store" = some (.ref f_g)) (G_j : Ok P w K mg base 3 f_g ["name", "first", "second", "immediate"] (spR4 C_0 iStore)) (m_2 : mg "gather" = some (.ref f_2)) (G_2 : Ok P w K mg base 2 f_2 ["word", "pieces"] (spGather K)) (m_C : mg "WORD_PIECES" = some (.ref a_1)) (m_f : mg "small_at_2" = some (.ref f_c)) (G_f : Ok P w K mg base 2 f_c ["half"] (spN fun w => ((Sg08.near w 2 : Nat) : Int))) (m_d : mg "small_at_7" = some (.ref f_b)) (G_c : Ok P w K mg base 2 f_b ["half"] (spN fun w => ((Sg08.near w 7 : Nat) : Int))) (p_1 : Pcs K a_1 [(5, 1, 6), (6, 1, 2), (10, 3, 3)]) : Ok P w K mg base 4 f_N ["half"] (spRd C_0 (fun w => Sg08.bits w 1 0 = 0 ∧ Sg08.bits w 15 13 = 6) fun w => insO (Sg08.short w)) := by
  refine D.ok sc_1G spRd_len fun cdv A outer s H vs Q E hr h => ?_
  refine ⟨_, (pss_one (ps_ret (pe_g m_k G_j hr (pa_cons pe_str (pa_cons (pe_g m_d G_c hr (pa_cons (pv 0) pa_nil)) (pa_cons (pe_g m_f G_f hr (pa_cons (pv 0) pa_nil)) (pa_cons (pe_g m_2 G_2 hr (pa_cons (pv 0) (pa_cons (pe_glob (v := .ref a_1) rfl m_C rfl) pa_nil))) pa_nil))))))), ?_⟩
  obtain ⟨n, rfl, ⟨h1, h2⟩, q⟩ := h
  replace q : RetI C_0 H Q (insO (Sg08.short n)) := q
  
  rw [short_06 h1 h2] at q
  refine ⟨_, rfl, n, rfl, _, rfl, n, rfl, _, rfl, n, _, _, rfl, p_1, by decide, _, _, _, _, rfl, ?_⟩
  replace q : RetI C_0 H Q (iStore _ _ _ ((Sg08.wrap ((_ : Nat) : Int) : Nat) : Int)) := q
  rw [wrap_nat (w_lt n)] at q
  rw [g_w]
  exact q
theorem sc_1H : FnScope ["half"] ["half"] (defScope (top 121)) := ⟨rfl, rfl, rfl, by decide +kernel, rfl, by decide +kernel, by decide +kernel⟩
theorem ok_1g {f_O f_g C_0 f_2 a_2 f_c f_b : Addr} (D : Def K "read_store_double" "read_store_double" (top 121) ["half"] f_O) (m_k : mg "of_store" = some (.ref f_g)) (G_j : Ok P w K mg base 3 f_g ["name", "first", "second", "immediate"] (spR4 C_0 iStore)) (m_2 : mg "gather" = some (.ref f_2)) (G_2 : Ok P w K mg base 2 f_2 ["word", "pieces"] (spGather K)) (m_D : mg "DOUBLE_PIECES" = some (.ref a_2)) (m_f : mg "small_at_2" = some (.ref f_c)) (G_f : Ok P w K mg base 2 f_c ["half"] (spN fun w => ((Sg08.near w 2 : Nat) : Int))) (m_d : mg "small_at_7" = some (.ref f_b)) (G_c : Ok P w K mg base 2 f_b ["half"] (spN fun w => ((Sg08.near w 7 : Nat) : Int))) (p_2 : Pcs K a_2 [(5, 2, 6), (10, 3, 3)]) : Ok P w K mg base 4 f_O ["half"] (spRd C_0 (fun w => Sg08.bits w 1 0 = 0 ∧ Sg08.bits w 15 13 = 7) fun w => insO (Sg08.short w)) := by
  refine D.ok sc_1H spRd_len fun cdv A outer s H vs Q E hr h => ?_
  refine ⟨_, (pss_one (ps_ret (pe_g m_k G_j hr (pa_cons pe_str (pa_cons (pe_g m_d G_c hr (pa_cons (pv 0) pa_nil)) (pa_cons (pe_g m_f G_f hr (pa_cons (pv 0) pa_nil)) (pa_cons (pe_g m_2 G_2 hr (pa_cons (pv 0) (pa_cons (pe_glob (v := .ref a_2) rfl m_D rfl) pa_nil))) pa_nil))))))), ?_⟩
  obtain ⟨n, rfl, ⟨h1, h2⟩, q⟩ := h
  replace q : RetI C_0 H Q (insO (Sg08.short n)) := q
  
  rw [short_07 h1 h2] at q
  refine ⟨_, rfl, n, rfl, _, rfl, n, rfl, _, rfl, n, _, _, rfl, p_2, by decide, _, _, _, _, rfl, ?_⟩
  replace q : RetI C_0 H Q (iStore _ _ _ ((Sg08.wrap ((_ : Nat) : Int) : Nat) : Int)) := q
  rw [wrap_nat (d_lt n)] at q
  rw [g_d]
  exact q
theorem sc_1I : FnScope ["half"] ["half"] (defScope (top 122)) := ⟨rfl, rfl, rfl, by decide +kernel, rfl, by decide +kernel, by decide +kernel⟩
theorem ok_1h {f_P f_5 C_0 f_l f_a : Addr} (D : Def K "read_add" "read_add" (top 122) ["half"] f_P) (m_6 : mg "of_immediate" = some (.ref f_5)) (G_6 : Ok P w K mg base 3 f_5 ["name", "target", "first", "immediate"] (spR4 C_0 iImm)) (m_p : mg "plain_immediate_short_words" = some (.ref f_l)) (G_p : Ok P w K mg base 4 f_l ["half"] (spN fun w => ((Sg08.wrap (Sg08.signed 6 (Sg08.imm6 w)) : Nat) : Int))) (m_7 : mg "full_at_7" = some (.ref f_a)) (G_7 : Ok P w K mg base 2 f_a ["half"] (spN fun w => ((Sg08.bits w 11 7 : Nat) : Int))) : Ok P w K mg base 5 f_P ["half"] (spRd C_0 (fun w => Sg08.bits w 1 0 = 1 ∧ Sg08.bits w 15 13 = 0) fun w => insO (Sg08.short w)) := by
  refine D.ok sc_1I spRd_len fun cdv A outer s H vs Q E hr h => ?_
  refine ⟨_, (pss_one (ps_ret (pe_g m_6 G_6 hr (pa_cons pe_str (pa_cons (pe_g m_7 G_7 hr (pa_cons (pv 0) pa_nil)) (pa_cons (pe_g m_7 G_7 hr (pa_cons (pv 0) pa_nil)) (pa_cons (pe_g m_p G_p hr (pa_cons (pv 0) pa_nil)) pa_nil))))))), ?_⟩
  obtain ⟨n, rfl, ⟨h1, h2⟩, q⟩ := h
  replace q : RetI C_0 H Q (insO (Sg08.short n)) := q
  rw [short_10 h1 h2] at q
  exact ⟨_, rfl, n, rfl, _, rfl, n, rfl, _, rfl, n, rfl, _, _, _, _, rfl, q⟩
theorem sc_1J : FnScope ["half"] ["half"] (defScope (top 123)) := ⟨rfl, rfl, rfl, by decide +kernel, rfl, by decide +kernel, by decide +kernel⟩
theorem ok_1i {f_Q f_5 C_0 f_l f_a f_3 : Addr} (D : Def K "read_add_32" "read_add_32" (top 123) ["half"] f_Q) (m_6 : mg "of_immediate" = some (.ref f_5)) (G_6 : Ok P w K mg base 3 f_5 ["name", "target", "first", "immediate"] (spR4 C_0 iImm)) (m_p : mg "plain_immediate_short_words" = some (.ref f_l)) (G_p : Ok P w K mg base 4 f_l ["half"] (spN fun w => ((Sg08.wrap (Sg08.signed 6 (Sg08.imm6 w)) : Nat) : Int))) (m_7 : mg "full_at_7" = some (.ref f_a)) (G_7 : Ok P w K mg base 2 f_a ["half"] (spN fun w => ((Sg08.bits w 11 7 : Nat) : Int))) (m_3 : mg "of_reserved" = some (.ref f_3)) (G_3 : Ok P w K mg base 4 f_3 [] (spR0 C_0 (iStop "reserved"))) : Ok P w K mg base 5 f_Q ["half"] (spRd C_0 (fun w => Sg08.bits w 1 0 = 1 ∧ Sg08.bits w 15 13 = 1) fun w => insO (Sg08.short w)) := by
  refine D.ok sc_1J spRd_len fun cdv A outer s H vs Q E hr h => ?_
  refine ⟨_, (pss_cons (ps_if (pt_cmpR op_eq (pe_g m_7 G_7 hr (pa_cons (pv 0) pa_nil)) pe_int (nomark _)) (pss_one (ps_ret (pe_g0 m_3 G_3 hr))) pss_nil) (pss_one (ps_ret (pe_g m_6 G_6 hr (pa_cons pe_str (pa_cons (pe_g m_7 G_7 hr (pa_cons (pv 0) pa_nil)) (pa_cons (pe_g m_7 G_7 hr (pa_cons (pv 0) pa_nil)) (pa_cons (pe_g m_p G_p hr (pa_cons (pv 0) pa_nil)) pa_nil)))))))), ?_⟩
  obtain ⟨n, rfl, ⟨h1, h2⟩, q⟩ := h
  replace q : RetI C_0 H Q (insO (Sg08.short n)) := q
  
  rw [short_11 h1 h2] at q
  refine ⟨_, rfl, n, rfl, rfl, _, rfl, ?_⟩
  refine ite2 (fun e => ?_) fun e => ?_
  · rw [if_pos (teq (b := 0) e)] at q
    exact ⟨rfl, q⟩
  · rw [if_neg (teqF (b := 0) e)] at q
    exact ⟨_, rfl, n, rfl, _, rfl, n, rfl, _, rfl, n, rfl, _, _, _, _, rfl, q⟩
theorem sc_1K : FnScope ["half"] ["half"] (defScope (top 124)) := ⟨rfl, rfl, rfl, by decide +kernel, rfl, by decide +kernel, by decide +kernel⟩
theorem ok_1j {f_R f_5 C_0 f_l f_a : Addr} (D : Def K "read_load_immediate" "read_load_immediate" (top 124) ["half"] f_R) (m_6 : mg "of_immediate" = some (.ref f_5)) (G_6 : Ok P w K mg base 3 f_5 ["name", "target", "first", "immediate"] (spR4 C_0 iImm)) (m_p : mg "plain_immediate_short_words" = some (.ref f_l)) (G_p : Ok P w K mg base 4 f_l ["half"] (spN fun w => ((Sg08.wrap (Sg08.signed 6 (Sg08.imm6 w)) : Nat) : Int))) (m_7 : mg "full_at_7" = some (.ref f_a)) (G_7 : Ok P w K mg base 2 f_a ["half"] (spN fun w => ((Sg08.bits w 11 7 : Nat) : Int))) : Ok P w K mg base 5 f_R ["half"] (spRd C_0 (fun w => Sg08.bits w 1 0 = 1 ∧ Sg08.bits w 15 13 = 2) fun w => insO (Sg08.short w)) := by
  refine D.ok sc_1K spRd_len fun cdv A outer s H vs Q E hr h => ?_
  refine ⟨_, (pss_one (ps_ret (pe_g m_6 G_6 hr (pa_cons pe_str (pa_cons (pe_g m_7 G_7 hr (pa_cons (pv 0) pa_nil)) (pa_cons pe_int (pa_cons (pe_g m_p G_p hr (pa_cons (pv 0) pa_nil)) pa_nil))))))), ?_⟩
  obtain ⟨n, rfl, ⟨h1, h2⟩, q⟩ := h
  replace q : RetI C_0 H Q (insO (Sg08.short n)) := q
  rw [short_12 h1 h2] at q
  exact ⟨_, rfl, n, rfl, _, rfl, n, rfl, _, _, _, _, rfl, q⟩
theorem sc_u : FnScope ["half", "immediate"] ["half"] (defScope (top 125)) := ⟨rfl, rfl, rfl, by decide +kernel, rfl, by decide +kernel, by decide +kernel⟩
theorem ok_1k {f_1H f_5 C_0 f_3 f_1 f_2 a_n : Addr} {t_6 : Tok} (D : Def K "read_stack_move" "read_stack_move" (top 125) ["half"] f_1H) (m_6 : mg "of_immediate" = some (.ref f_5)) (G_6 : Ok P w K mg base 3 f_5 ["name", "target", "first", "immediate"] (spR4 C_0 iImm)) (m_e : mg "STACK_POINTER" = some (.int 2 t_6)) (m_3 : mg "of_reserved" = some (.ref f_3)) (G_3 : Ok P w K mg base 4 f_3 [] (spR0 C_0 (iStop "reserved"))) (m_1 : mg "extend" = some (.ref f_1)) (G_1 : Ok P w K mg base 3 f_1 ["number", "width"] spExtend) (m_2 : mg "gather" = some (.ref f_2)) (G_2 : Ok P w K mg base 2 f_2 ["word", "pieces"] (spGather K)) (m_16 : mg "STACK_MOVE_PIECES" = some (.ref a_n)) (p_a : Pcs K a_n [(2, 1, 5), (3, 2, 7), (5, 1, 6), (6, 1, 4), (12, 1, 9)]) : Ok P w K mg base 5 f_1H ["half"] (spRd C_0 (fun w => (Sg08.bits w 1 0 = 1 ∧ Sg08.bits w 15 13 = 3) ∧ Sg08.bits w 11 7 = 2) fun w => insO (Sg08.short w)) := by
  refine D.ok sc_u spRd_len fun cdv A outer s H vs Q E hr h => ?_
  refine ⟨_, (pss_cons (ps_set (i := 1) sc_u.nd rfl (Or.inl rfl) (pe_g m_1 G_1 hr (pa_cons (pe_g m_2 G_2 hr (pa_cons (pv 0) (pa_cons (pe_glob (v := .ref a_n) rfl m_16 rfl) pa_nil))) (pa_cons pe_int pa_nil)))) (pss_cons (ps_if (pt_cmpR op_eq (pv 1) pe_int (nomark _)) (pss_one (ps_ret (pe_g0 m_3 G_3 hr))) pss_nil) (pss_one (ps_ret (pe_g m_6 G_6 hr (pa_cons pe_str (pa_cons (pe_glob (v := .int 2) rfl m_e ⟨_, rfl⟩) (pa_cons (pe_glob (v := .int 2) rfl m_e ⟨_, rfl⟩) (pa_cons (pv 1) pa_nil))))))))), ?_⟩
  obtain ⟨n, rfl, ⟨⟨h1, h2⟩, h3⟩, q⟩ := h
  replace q : RetI C_0 H Q (insO (Sg08.short n)) := q
  rw [short_13 h1 h2, if_pos h3] at q
  have ex : extendZ ((gatN n [(2, 1, 5), (3, 2, 7), (5, 1, 6), (6, 1, 4), (12, 1, 9)] : Nat) : Int) 10 = _ := (congrArg (fun x : Nat => extendZ (x : Int) 10) (g_sm n)).trans (extendZ_nat _ 9)
  have ez := mv_zero _ (mv_lt (w := n))
  refine ⟨_, rfl, n, _, _, rfl, p_a, by decide, _, _, rfl, ⟨by decide, by decide⟩, _, rfl, rfl, _, rfl, ?_⟩
  refine ite2 (fun e => ?_) fun e => ?_
  · rw [if_pos (ez.mp (teqZ (b := 0) ex e))] at q
    exact ⟨rfl, q⟩
  · rw [if_neg (fun z => teqFZ (b := 0) ex e (ez.mpr z))] at q
    exact ⟨_, rfl, _, _, _, _, rfl, by rw [ex]; exact q⟩
theorem sc_v : FnScope ["half", "immediate"] ["half"] (defScope (top 126)) := ⟨rfl, rfl, rfl, by decide +kernel, rfl, by decide +kernel, by decide +kernel⟩
theorem ok_1l {f_S f_5 C_0 f_a f_3 f_1 f_2 a_o f_1H : Addr} {t_6 : Tok} (D : Def K "read_upper" "read_upper" (top 126) ["half"] f_S) (m_6 : mg "of_immediate" = some (.ref f_5)) (G_6 : Ok P w K mg base 3 f_5 ["name", "target", "first", "immediate"] (spR4 C_0 iImm)) (m_7 : mg "full_at_7" = some (.ref f_a)) (G_7 : Ok P w K mg base 2 f_a ["half"] (spN fun w => ((Sg08.bits w 11 7 : Nat) : Int))) (m_3 : mg "of_reserved" = some (.ref f_3)) (G_3 : Ok P w K mg base 4 f_3 [] (spR0 C_0 (iStop "reserved"))) (m_1 : mg "extend" = some (.ref f_1)) (G_1 : Ok P w K mg base 3 f_1 ["number", "width"] spExtend) (m_2 : mg "gather" = some (.ref f_2)) (G_2 : Ok P w K mg base 2 f_2 ["word", "pieces"] (spGather K)) (m_17 : mg "UPPER_PIECES_short_words" = some (.ref a_o)) (m_e : mg "STACK_POINTER" = some (.int 2 t_6)) (m_18 : mg "read_stack_move" = some (.ref f_1H)) (G_V : Ok P w K mg base 5 f_1H ["half"] (spRd C_0 (fun w => (Sg08.bits w 1 0 = 1 ∧ Sg08.bits w 15 13 = 3) ∧ Sg08.bits w 11 7 = 2) fun w => insO (Sg08.short w))) (p_b : Pcs K a_o [(2, 5, 12), (12, 1, 17)]) : Ok P w K mg base 6 f_S ["half"] (spRd C_0 (fun w => Sg08.bits w 1 0 = 1 ∧ Sg08.bits w 15 13 = 3) fun w => insO (Sg08.short w)) := by
  refine D.ok sc_v spRd_len fun cdv A outer s H vs Q E hr h => ?_
  refine ⟨_, (pss_cons (ps_if (pt_cmpR op_eq (pe_g m_7 G_7 hr (pa_cons (pv 0) pa_nil)) (pe_glob (v := .int 2) rfl m_e ⟨_, rfl⟩) (nomark _)) (pss_one (ps_ret (pe_g m_18 G_V hr (pa_cons (pv 0) pa_nil)))) pss_nil) (pss_cons (ps_set (i := 1) sc_v.nd rfl (Or.inl rfl) (pe_g m_1 G_1 hr (pa_cons (pe_g m_2 G_2 hr (pa_cons (pv 0) (pa_cons (pe_glob (v := .ref a_o) rfl m_17 rfl) pa_nil))) (pa_cons pe_int pa_nil)))) (pss_cons (ps_if (pt_cmpR op_eq (pv 1) pe_int (nomark _)) (pss_one (ps_ret (pe_g0 m_3 G_3 hr))) pss_nil) (pss_one (ps_ret (pe_g m_6 G_6 hr (pa_cons pe_str (pa_cons (pe_g m_7 G_7 hr (pa_cons (pv 0) pa_nil)) (pa_cons pe_int (pa_cons (pv 1) pa_nil)))))))))), ?_⟩
  obtain ⟨n, rfl, ⟨h1, h2⟩, q⟩ := h
  replace q : RetI C_0 H Q (insO (Sg08.short n)) := q
  
  have ex : extendZ ((gatN n [(2, 5, 12), (12, 1, 17)] : Nat) : Int) 18 = _ := (congrArg (fun x : Nat => extendZ (x : Int) 18) (g_u n)).trans (extendZ_nat _ 17)
  have ez := up_zero _ (imm6_lt (w := n))
  refine ⟨_, rfl, n, rfl, rfl, _, rfl, ?_⟩
  refine ite2 (fun e => ?_) fun e => ?_
  · exact ⟨_, rfl, n, rfl, ⟨⟨h1, h2⟩, teq (b := 2) e⟩, q⟩
  · rw [short_13 h1 h2, if_neg (teqF (b := 2) e)] at q
    refine ⟨_, rfl, n, _, _, rfl, p_b, by decide, _, _, rfl, ⟨by decide, by decide⟩, _, rfl, rfl, _, rfl, ?_⟩
    refine ite2 (fun e => ?_) fun e => ?_
    · rw [if_pos (ez.mp (teqZ (b := 0) ex e))] at q
      exact ⟨rfl, q⟩
    · rw [if_neg (fun z => teqFZ (b := 0) ex e (ez.mpr z))] at q
      exact ⟨_, rfl, n, rfl, _, rfl, _, _, _, _, rfl, by rw [ex]; exact q⟩
theorem sc_w : FnScope ["half", "name"] ["half"] (defScope (top 128)) := ⟨rfl, rfl, rfl, by decide +kernel, rfl, by decide +kernel, by decide +kernel⟩
theorem ok_1m {f_1I f_e C_0 f_c f_b f_3 a_p f_0 : Addr} (D : Def K "read_small_registers" "read_small_registers" (top 128) ["half"] f_1I) (m_l : mg "of_registers" = some (.ref f_e)) (G_k : Ok P w K mg base 3 f_e ["name", "target", "first", "second"] (spR4 C_0 iReg)) (m_f : mg "small_at_2" = some (.ref f_c)) (G_f : Ok P w K mg base 2 f_c ["half"] (spN fun w => ((Sg08.near w 2 : Nat) : Int))) (m_d : mg "small_at_7" = some (.ref f_b)) (G_c : Ok P w K mg base 2 f_b ["half"] (spN fun w => ((Sg08.near w 7 : Nat) : Int))) (m_3 : mg "of_reserved" = some (.ref f_3)) (G_3 : Ok P w K mg base 4 f_3 [] (spR0 C_0 (iStop "reserved"))) (m_19 : mg "REGISTERS_short_words" = some (.ref a_p)) (m_0 : mg "field" = some (.ref f_0)) (G_0 : Ok P w K mg base 1 f_0 ["word", "low", "width"] spField) (k_e : KDT P w K a_p kv_a) : Ok P w K mg base 5 f_1I ["half"] (spRd C_0 (fun w => (Sg08.bits w 1 0 = 1 ∧ Sg08.bits w 15 13 = 4) ∧ Sg08.bits w 11 10 = 3) fun w => insO (Sg08.short w)) := by
  refine D.ok sc_w spRd_len fun cdv A outer s H vs Q E hr h => ?_
  have hu := hu_of hr
  refine ⟨_, (pss_cons (ps_set (i := 1) sc_w.nd rfl (Or.inl rfl) (pe_kget1 hu (pe_glob (v := .ref a_p) rfl m_19 rfl) (pe_tup (pa_cons (pe_g m_0 G_0 hr (pa_cons (pv 0) (pa_cons pe_int (pa_cons pe_int pa_nil)))) (pa_cons (pe_g m_0 G_0 hr (pa_cons (pv 0) (pa_cons pe_int (pa_cons pe_int pa_nil)))) pa_nil))) ⟨rfl, rfl, rfl, rfl⟩)) (pss_cons (ps_if (pt_cmp (pc_isN (pv 1))) (pss_one (ps_ret (pe_g0 m_3 G_3 hr))) pss_nil) (pss_one (ps_ret (pe_g m_l G_k hr (pa_cons (pv 1) (pa_cons (pe_g m_d G_c hr (pa_cons (pv 0) pa_nil)) (pa_cons (pe_g m_d G_c hr (pa_cons (pv 0) pa_nil)) (pa_cons (pe_g m_f G_f hr (pa_cons (pv 0) pa_nil)) pa_nil))))))))), ?_⟩
  obtain ⟨n, rfl, ⟨⟨h1, h2⟩, h3⟩, q⟩ := h
  replace q : RetI C_0 H Q (insO (Sg08.short n)) := q
  rw [short_14_3 h1 h2 h3] at q
  have ek := small_tab n
  refine ⟨_, rfl, .inr ⟨_, k_e⟩, _, rfl, _, _, _, rfl, ⟨by decide, by decide, by decide⟩, _, rfl, _, _, _, rfl, ⟨by decide, by decide, by decide⟩, (by show 2 ≤ sizeLine; decide), fun p hp => ?_⟩
  cases eo : smallOf (Sg08.bits n 12 12) (Sg08.bits n 6 5) with
  | none =>
    rw [eo] at q ek
    exact ⟨Option.none, .inr ⟨_, [.inl _, .inl _], p, k_e, rfl, upd_same, ek.symm⟩, _, rfl, _, rfl, iteT ⟨rfl, q.laid hp⟩⟩
  | some o =>
    rw [eo] at q ek
    exact ⟨some _, .inr ⟨_, [.inl _, .inl _], p, k_e, rfl, upd_same, ek.symm⟩, _, rfl, _, rfl, iteF ⟨_, rfl, _, rfl, n, rfl, _, rfl, n, rfl, _, rfl, n, rfl, _, _, _, _, rfl, q.laid hp⟩⟩
theorem sc_6 : FnScope ["half", "choice", "target"] ["half"] (defScope (top 129)) := ⟨rfl, rfl, rfl, by decide +kernel, rfl, by decide +kernel, by decide +kernel⟩
theorem ok_1n {f_T f_1I C_0 f_5 f_l f_u f_b f_0 : Addr} (D : Def K "read_small" "read_small" (top 129) ["half"] f_T) (m_1a : mg "read_small_registers" = some (.ref f_1I)) (G_W : Ok P w K mg base 5 f_1I ["half"] (spRd C_0 (fun w => (Sg08.bits w 1 0 = 1 ∧ Sg08.bits w 15 13 = 4) ∧ Sg08.bits w 11 10 = 3) fun w => insO (Sg08.short w))) (m_6 : mg "of_immediate" = some (.ref f_5)) (G_6 : Ok P w K mg base 3 f_5 ["name", "target", "first", "immediate"] (spR4 C_0 iImm)) (m_p : mg "plain_immediate_short_words" = some (.ref f_l)) (G_p : Ok P w K mg base 4 f_l ["half"] (spN fun w => ((Sg08.wrap (Sg08.signed 6 (Sg08.imm6 w)) : Nat) : Int))) (m_y : mg "shift_amount" = some (.ref f_u)) (G_v : Ok P w K mg base 3 f_u ["half"] (spN fun w => ((Sg08.imm6 w : Nat) : Int))) (m_d : mg "small_at_7" = some (.ref f_b)) (G_c : Ok P w K mg base 2 f_b ["half"] (spN fun w => ((Sg08.near w 7 : Nat) : Int))) (m_0 : mg "field" = some (.ref f_0)) (G_0 : Ok P w K mg base 1 f_0 ["word", "low", "width"] spField) : Ok P w K mg base 6 f_T ["half"] (spRd C_0 (fun w => Sg08.bits w 1 0 = 1 ∧ Sg08.bits w 15 13 = 4) fun w => insO (Sg08.short w)) := by
  refine D.ok sc_6 spRd_len fun cdv A outer s H vs Q E hr h => ?_
  refine ⟨_, (pss_cons (ps_set (i := 1) sc_6.nd rfl (Or.inl rfl) (pe_g m_0 G_0 hr (pa_cons (pv 0) (pa_cons pe_int (pa_cons pe_int pa_nil))))) (pss_cons (ps_set (i := 2) sc_6.nd rfl (Or.inl rfl) (pe_g m_d G_c hr (pa_cons (pv 0) pa_nil))) (pss_cons (ps_if (pt_cmpR op_eq (pv 1) pe_int (nomark _)) (pss_one (ps_ret (pe_g m_6 G_6 hr (pa_cons pe_str (pa_cons (pv 2) (pa_cons (pv 2) (pa_cons (pe_g m_y G_v hr (pa_cons (pv 0) pa_nil)) pa_nil))))))) pss_nil) (pss_cons (ps_if (pt_cmpR op_eq (pv 1) pe_int (nomark _)) (pss_one (ps_ret (pe_g m_6 G_6 hr (pa_cons pe_str (pa_cons (pv 2) (pa_cons (pv 2) (pa_cons (pe_g m_y G_v hr (pa_cons (pv 0) pa_nil)) pa_nil))))))) pss_nil) (pss_cons (ps_if (pt_cmpR op_eq (pv 1) pe_int (nomark _)) (pss_one (ps_ret (pe_g m_6 G_6 hr (pa_cons pe_str (pa_cons (pv 2) (pa_cons (pv 2) (pa_cons (pe_g m_p G_p hr (pa_cons (pv 0) pa_nil)) pa_nil))))))) pss_nil) (pss_one (ps_ret (pe_g m_1a G_W hr (pa_cons (pv 0) pa_nil))))))))), ?_⟩
  obtain ⟨n, rfl, ⟨h1, h2⟩, q⟩ := h
  replace q : RetI C_0 H Q (insO (Sg08.short n)) := q
  
  have ef : fieldZ (n : Int) 10 2 = ((Sg08.bits n 11 10 : Nat) : Int) := fieldZ_nat n 10 2
  have bl : Sg08.bits n 11 10 < 4 := bits_lt n 11 10
  refine ⟨_, rfl, _, _, _, rfl, ⟨by decide, by decide, by decide⟩, _, rfl, n, rfl, _, rfl, rfl, _, rfl, ?_⟩
  refine ite2 (fun e => ?_) fun e => ?_
  · rw [short_14_0 h1 h2 (teqZ (b := 0) ef e)] at q
    replace q : RetI C_0 H Q (iImm "srl" _ _ ((Sg08.wrap ((_ : Nat) : Int) : Nat) : Int)) := q
    rw [wrap_nat (Nat.lt_trans imm6_lt (by decide))] at q
    exact ⟨_, rfl, _, rfl, _, rfl, n, rfl, _, _, _, _, rfl, q⟩
  · have e0 := teqFZ (b := 0) ef e
    refine ⟨_, rfl, rfl, _, rfl, ?_⟩
    refine ite2 (fun e => ?_) fun e => ?_
    · rw [short_14_1 h1 h2 (teqZ (b := 1) ef e)] at q
      replace q : RetI C_0 H Q (iImm "sra" _ _ ((Sg08.wrap ((_ : Nat) : Int) : Nat) : Int)) := q
      rw [wrap_nat (Nat.lt_trans imm6_lt (by decide))] at q
      exact ⟨_, rfl, _, rfl, _, rfl, n, rfl, _, _, _, _, rfl, q⟩
    · have e1 := teqFZ (b := 1) ef e
      refine ⟨_, rfl, rfl, _, rfl, ?_⟩
      refine ite2 (fun e => ?_) fun e => ?_
      · rw [short_14_2 h1 h2 (teqZ (b := 2) ef e)] at q
        exact ⟨_, rfl, _, rfl, _, rfl, n, rfl, _, _, _, _, rfl, q⟩
      · have e2 := teqFZ (b := 2) ef e
        exact ⟨_, rfl, n, rfl, ⟨⟨h1, h2⟩, by omega⟩, q⟩
theorem sc_1L : FnScope ["half"] ["half"] (defScope (top 130)) := ⟨rfl, rfl, rfl, by decide +kernel, rfl, by decide +kernel, by decide +kernel⟩
theorem ok_1o {f_U f_s C_0 f_1 f_2 a_q : Addr} (D : Def K "read_jump" "read_jump" (top 130) ["half"] f_U) (m_A : mg "of_jump" = some (.ref f_s)) (G_y : Ok P w K mg base 3 f_s ["target", "immediate"] (spR2 C_0 iJump)) (m_1 : mg "extend" = some (.ref f_1)) (G_1 : Ok P w K mg base 3 f_1 ["number", "width"] spExtend) (m_2 : mg "gather" = some (.ref f_2)) (G_2 : Ok P w K mg base 2 f_2 ["word", "pieces"] (spGather K)) (m_1b : mg "JUMP_PIECES_short_words" = some (.ref a_q)) (p_c : Pcs K a_q [(2, 1, 5), (3, 3, 1), (6, 1, 7), (7, 1, 6), (8, 1, 10), (9, 2, 8), (11, 1, 4), (12, 1, 11)]) : Ok P w K mg base 4 f_U ["half"] (spRd C_0 (fun w => Sg08.bits w 1 0 = 1 ∧ Sg08.bits w 15 13 = 5) fun w => insO (Sg08.short w)) := by
  refine D.ok sc_1L spRd_len fun cdv A outer s H vs Q E hr h => ?_
  refine ⟨_, (pss_one (ps_ret (pe_g m_A G_y hr (pa_cons pe_int (pa_cons (pe_g m_1 G_1 hr (pa_cons (pe_g m_2 G_2 hr (pa_cons (pv 0) (pa_cons (pe_glob (v := .ref a_q) rfl m_1b rfl) pa_nil))) (pa_cons pe_int pa_nil))) pa_nil))))), ?_⟩
  obtain ⟨n, rfl, ⟨h1, h2⟩, q⟩ := h
  replace q : RetI C_0 H Q (insO (Sg08.short n)) := q
  
  rw [short_15 h1 h2] at q
  refine ⟨_, rfl, n, _, _, rfl, p_c, by decide, _, _, rfl, ⟨by decide, by decide⟩, _, _, rfl, ?_⟩
  rw [g_cj, show extendZ _ 12 = _ from extendZ_nat _ 11]
  exact q
theorem sc_1M : FnScope ["half"] ["half"] (defScope (top 132)) := ⟨rfl, rfl, rfl, by decide +kernel, rfl, by decide +kernel, by decide +kernel⟩
theorem ok_1p {f_V f_m C_0 f_1 f_2 a_3 f_b : Addr} (D : Def K "read_branch_equal" "read_branch_equal" (top 132) ["half"] f_V) (m_t : mg "of_branch" = some (.ref f_m)) (G_s : Ok P w K mg base 3 f_m ["name", "first", "second", "immediate"] (spR4 C_0 iBranch)) (m_1 : mg "extend" = some (.ref f_1)) (G_1 : Ok P w K mg base 3 f_1 ["number", "width"] spExtend) (m_2 : mg "gather" = some (.ref f_2)) (G_2 : Ok P w K mg base 2 f_2 ["word", "pieces"] (spGather K)) (m_E : mg "BRANCH_PIECES_short_words" = some (.ref a_3)) (m_d : mg "small_at_7" = some (.ref f_b)) (G_c : Ok P w K mg base 2 f_b ["half"] (spN fun w => ((Sg08.near w 7 : Nat) : Int))) (p_3 : Pcs K a_3 [(2, 1, 5), (3, 2, 1), (5, 2, 6), (10, 2, 3), (12, 1, 8)]) : Ok P w K mg base 4 f_V ["half"] (spRd C_0 (fun w => Sg08.bits w 1 0 = 1 ∧ Sg08.bits w 15 13 = 6) fun w => insO (Sg08.short w)) := by
  refine D.ok sc_1M spRd_len fun cdv A outer s H vs Q E hr h => ?_
  refine ⟨_, (pss_one (ps_ret (pe_g m_t G_s hr (pa_cons pe_str (pa_cons (pe_g m_d G_c hr (pa_cons (pv 0) pa_nil)) (pa_cons pe_int (pa_cons (pe_g m_1 G_1 hr (pa_cons (pe_g m_2 G_2 hr (pa_cons (pv 0) (pa_cons (pe_glob (v := .ref a_3) rfl m_E rfl) pa_nil))) (pa_cons pe_int pa_nil))) pa_nil))))))), ?_⟩
  obtain ⟨n, rfl, ⟨h1, h2⟩, q⟩ := h
  replace q : RetI C_0 H Q (insO (Sg08.short n)) := q
  
  rw [short_16 h1 h2] at q
  refine ⟨_, rfl, n, rfl, _, rfl, n, _, _, rfl, p_3, by decide, _, _, rfl, ⟨by decide, by decide⟩, _, _, _, _, rfl, ?_⟩
  rw [g_cb, show extendZ _ 9 = _ from extendZ_nat _ 8]
  exact q
theorem sc_1N : FnScope ["half"] ["half"] (defScope (top 133)) := ⟨rfl, rfl, rfl, by decide +kernel, rfl, by decide +kernel, by decide +kernel⟩
theorem ok_1q {f_W f_m C_0 f_1 f_2 a_3 f_b : Addr} (D : Def K "read_branch_not_equal" "read_branch_not_equal" (top 133) ["half"] f_W) (m_t : mg "of_branch" = some (.ref f_m)) (G_s : Ok P w K mg base 3 f_m ["name", "first", "second", "immediate"] (spR4 C_0 iBranch)) (m_1 : mg "extend" = some (.ref f_1)) (G_1 : Ok P w K mg base 3 f_1 ["number", "width"] spExtend) (m_2 : mg "gather" = some (.ref f_2)) (G_2 : Ok P w K mg base 2 f_2 ["word", "pieces"] (spGather K)) (m_E : mg "BRANCH_PIECES_short_words" = some (.ref a_3)) (m_d : mg "small_at_7" = some (.ref f_b)) (G_c : Ok P w K mg base 2 f_b ["half"] (spN fun w => ((Sg08.near w 7 : Nat) : Int))) (p_3 : Pcs K a_3 [(2, 1, 5), (3, 2, 1), (5, 2, 6), (10, 2, 3), (12, 1, 8)]) : Ok P w K mg base 4 f_W ["half"] (spRd C_0 (fun w => Sg08.bits w 1 0 = 1 ∧ Sg08.bits w 15 13 = 7) fun w => insO (Sg08.short w)) := by
  refine D.ok sc_1N spRd_len fun cdv A outer s H vs Q E hr h => ?_
  refine ⟨_, (pss_one (ps_ret (pe_g m_t G_s hr (pa_cons pe_str (pa_cons (pe_g m_d G_c hr (pa_cons (pv 0) pa_nil)) (pa_cons pe_int (pa_cons (pe_g m_1 G_1 hr (pa_cons (pe_g m_2 G_2 hr (pa_cons (pv 0) (pa_cons (pe_glob (v := .ref a_3) rfl m_E rfl) pa_nil))) (pa_cons pe_int pa_nil))) pa_nil))))))), ?_⟩
  obtain ⟨n, rfl, ⟨h1, h2⟩, q⟩ := h
  replace q : RetI C_0 H Q (insO (Sg08.short n)) := q
  
  rw [short_17 h1 h2] at q
  refine ⟨_, rfl, n, rfl, _, rfl, n, _, _, rfl, p_3, by decide, _, _, rfl, ⟨by decide, by decide⟩, _, _, _, _, rfl, ?_⟩
  rw [g_cb, show extendZ _ 9 = _ from extendZ_nat _ 8]
  exact q
theorem sc_1O : FnScope ["half"] ["half"] (defScope (top 134)) := ⟨rfl, rfl, rfl, by decide +kernel, rfl, by decide +kernel, by decide +kernel⟩
theorem ok_1r {f_X f_5 C_0 f_u f_a : Addr} (D : Def K "read_shift_left" "read_shift_left" (top 134) ["half"] f_X) (m_6 : mg "of_immediate" = some (.ref f_5)) (G_6 : Ok P w K mg base 3 f_5 ["name", "target", "first", "immediate"] (spR4 C_0 iImm)) (m_y : mg "shift_amount" = some (.ref f_u)) (G_v : Ok P w K mg base 3 f_u ["half"] (spN fun w => ((Sg08.imm6 w : Nat) : Int))) (m_7 : mg "full_at_7" = some (.ref f_a)) (G_7 : Ok P w K mg base 2 f_a ["half"] (spN fun w => ((Sg08.bits w 11 7 : Nat) : Int))) : Ok P w K mg base 4 f_X ["half"] (spRd C_0 (fun w => Sg08.bits w 1 0 = 2 ∧ Sg08.bits w 15 13 = 0) fun w => insO (Sg08.short w)) := by
  refine D.ok sc_1O spRd_len fun cdv A outer s H vs Q E hr h => ?_
  refine ⟨_, (pss_one (ps_ret (pe_g m_6 G_6 hr (pa_cons pe_str (pa_cons (pe_g m_7 G_7 hr (pa_cons (pv 0) pa_nil)) (pa_cons (pe_g m_7 G_7 hr (pa_cons (pv 0) pa_nil)) (pa_cons (pe_g m_y G_v hr (pa_cons (pv 0) pa_nil)) pa_nil))))))), ?_⟩
  obtain ⟨n, rfl, ⟨h1, h2⟩, q⟩ := h
  replace q : RetI C_0 H Q (insO (Sg08.short n)) := q
  
  rw [short_20 h1 h2] at q
  replace q : RetI C_0 H Q (iImm "sll" _ _ ((Sg08.wrap ((_ : Nat) : Int) : Nat) : Int)) := q
  rw [wrap_nat (Nat.lt_trans imm6_lt (by decide))] at q
  exact ⟨_, rfl, n, rfl, _, rfl, n, rfl, _, rfl, n, rfl, _, _, _, _, rfl, q⟩
theorem sc_1P : FnScope ["half"] ["half"] (defScope (top 135)) := ⟨rfl, rfl, rfl, by decide +kernel, rfl, by decide +kernel, by decide +kernel⟩
theorem ok_1s {f_Y f_f C_0 f_2 a_r f_a f_3 : Addr} {t_6 : Tok} (D : Def K "read_stack_load_word" "read_stack_load_word" (top 135) ["half"] f_Y) (m_j : mg "of_load" = some (.ref f_f)) (G_i : Ok P w K mg base 3 f_f ["name", "target", "first", "immediate"] (spR4 C_0 iLoad)) (m_2 : mg "gather" = some (.ref f_2)) (G_2 : Ok P w K mg base 2 f_2 ["word", "pieces"] (spGather K)) (m_1c : mg "STACK_LOAD_WORD_PIECES" = some (.ref a_r)) (m_e : mg "STACK_POINTER" = some (.int 2 t_6)) (m_7 : mg "full_at_7" = some (.ref f_a)) (G_7 : Ok P w K mg base 2 f_a ["half"] (spN fun w => ((Sg08.bits w 11 7 : Nat) : Int))) (m_3 : mg "of_reserved" = some (.ref f_3)) (G_3 : Ok P w K mg base 4 f_3 [] (spR0 C_0 (iStop "reserved"))) (p_d : Pcs K a_r [(2, 2, 6), (4, 3, 2), (12, 1, 5)]) : Ok P w K mg base 5 f_Y ["half"] (spRd C_0 (fun w => Sg08.bits w 1 0 = 2 ∧ Sg08.bits w 15 13 = 2) fun w => insO (Sg08.short w)) := by
  refine D.ok sc_1P spRd_len fun cdv A outer s H vs Q E hr h => ?_
  refine ⟨_, (pss_cons (ps_if (pt_cmpR op_eq (pe_g m_7 G_7 hr (pa_cons (pv 0) pa_nil)) pe_int (nomark _)) (pss_one (ps_ret (pe_g0 m_3 G_3 hr))) pss_nil) (pss_one (ps_ret (pe_g m_j G_i hr (pa_cons pe_str (pa_cons (pe_g m_7 G_7 hr (pa_cons (pv 0) pa_nil)) (pa_cons (pe_glob (v := .int 2) rfl m_e ⟨_, rfl⟩) (pa_cons (pe_g m_2 G_2 hr (pa_cons (pv 0) (pa_cons (pe_glob (v := .ref a_r) rfl m_1c rfl) pa_nil))) pa_nil)))))))), ?_⟩
  obtain ⟨n, rfl, ⟨h1, h2⟩, q⟩ := h
  replace q : RetI C_0 H Q (insO (Sg08.short n)) := q
  
  rw [short_22 h1 h2] at q
  refine ⟨_, rfl, n, rfl, rfl, _, rfl, ?_⟩
  refine ite2 (fun e => ?_) fun e => ?_
  · rw [if_pos (teq (b := 0) e)] at q
    exact ⟨rfl, q⟩
  · rw [if_neg (teqF (b := 0) e)] at q
    refine ⟨_, rfl, n, rfl, _, rfl, n, _, _, rfl, p_d, by decide, _, _, _, _, rfl, ?_⟩
    replace q : RetI C_0 H Q (iLoad _ _ _ ((Sg08.wrap ((_ : Nat) : Int) : Nat) : Int)) := q
    rw [wrap_nat (slw_lt n)] at q
    rw [g_slw]
    exact q
theorem sc_1Q : FnScope ["half"] ["half"] (defScope (top 136)) := ⟨rfl, rfl, rfl, by decide +kernel, rfl, by decide +kernel, by decide +kernel⟩
theorem ok_1t {f_Z f_f C_0 f_2 a_s f_a f_3 : Addr} {t_6 : Tok} (D : Def K "read_stack_load_double" "read_stack_load_double" (top 136) ["half"] f_Z) (m_j : mg "of_load" = some (.ref f_f)) (G_i : Ok P w K mg base 3 f_f ["name", "target", "first", "immediate"] (spR4 C_0 iLoad)) (m_2 : mg "gather" = some (.ref f_2)) (G_2 : Ok P w K mg base 2 f_2 ["word", "pieces"] (spGather K)) (m_1d : mg "STACK_LOAD_DOUBLE_PIECES" = some (.ref a_s)) (m_e : mg "STACK_POINTER" = some (.int 2 t_6)) (m_7 : mg "full_at_7" = some (.ref f_a)) (G_7 : Ok P w K mg base 2 f_a ["half"] (spN fun w => ((Sg08.bits w 11 7 : Nat) : Int))) (m_3 : mg "of_reserved" = some (.ref f_3)) (G_3 : Ok P w K mg base 4 f_3 [] (spR0 C_0 (iStop "reserved"))) (p_e : Pcs K a_s [(2, 3, 6), (5, 2, 3), (12, 1, 5)]) : Ok P w K mg base 5 f_Z ["half"] (spRd C_0 (fun w => Sg08.bits w 1 0 = 2 ∧ Sg08.bits w 15 13 = 3) fun w => insO (Sg08.short w)) := by
  refine D.ok sc_1Q spRd_len fun cdv A outer s H vs Q E hr h => ?_
  refine ⟨_, (pss_cons (ps_if (pt_cmpR op_eq (pe_g m_7 G_7 hr (pa_cons (pv 0) pa_nil)) pe_int (nomark _)) (pss_one (ps_ret (pe_g0 m_3 G_3 hr))) pss_nil) (pss_one (ps_ret (pe_g m_j G_i hr (pa_cons pe_str (pa_cons (pe_g m_7 G_7 hr (pa_cons (pv 0) pa_nil)) (pa_cons (pe_glob (v := .int 2) rfl m_e ⟨_, rfl⟩) (pa_cons (pe_g m_2 G_2 hr (pa_cons (pv 0) (pa_cons (pe_glob (v := .ref a_s) rfl m_1d rfl) pa_nil))) pa_nil)))))))), ?_⟩
  obtain ⟨n, rfl, ⟨h1, h2⟩, q⟩ := h
  replace q : RetI C_0 H Q (insO (Sg08.short n)) := q
  
  rw [short_23 h1 h2] at q
  refine ⟨_, rfl, n, rfl, rfl, _, rfl, ?_⟩
  refine ite2 (fun e => ?_) fun e => ?_
  · rw [if_pos (teq (b := 0) e)] at q
    exact ⟨rfl, q⟩
  · rw [if_neg (teqF (b := 0) e)] at q
    refine ⟨_, rfl, n, rfl, _, rfl, n, _, _, rfl, p_e, by decide, _, _, _, _, rfl, ?_⟩
    replace q : RetI C_0 H Q (iLoad _ _ _ ((Sg08.wrap ((_ : Nat) : Int) : Nat) : Int)) := q
    rw [wrap_nat (sld_lt n)] at q
    rw [g_sld]
    exact q
theorem sc_1R : FnScope ["half"] ["half"] (defScope (top 137)) := ⟨rfl, rfl, rfl, by decide +kernel, rfl, by decide +kernel, by decide +kernel⟩
theorem ok_1u {f_10 f_g C_0 f_2 a_t f_k : Addr} {t_6 : Tok} (D : Def K "read_stack_store_word" "read_stack_store_word" (top 137) ["half"] f_10) (m_k : mg "of_store" = some (.ref f_g)) (G_j : Ok P w K mg base 3 f_g ["name", "first", "second", "immediate"] (spR4 C_0 iStore)) (m_2 : mg "gather" = some (.ref f_2)) (G_2 : Ok P w K mg base 2 f_2 ["word", "pieces"] (spGather K)) (m_1e : mg "STACK_STORE_WORD_PIECES" = some (.ref a_t)) (m_m : mg "full_at_2" = some (.ref f_k)) (G_l : Ok P w K mg base 2 f_k ["half"] (spN fun w => ((Sg08.bits w 6 2 : Nat) : Int))) (m_e : mg "STACK_POINTER" = some (.int 2 t_6)) (p_f : Pcs K a_t [(7, 2, 6), (9, 4, 2)]) : Ok P w K mg base 4 f_10 ["half"] (spRd C_0 (fun w => Sg08.bits w 1 0 = 2 ∧ Sg08.bits w 15 13 = 6) fun w => insO (Sg08.short w)) := by
  refine D.ok sc_1R spRd_len fun cdv A outer s H vs Q E hr h => ?_
  refine ⟨_, (pss_one (ps_ret (pe_g m_k G_j hr (pa_cons pe_str (pa_cons (pe_glob (v := .int 2) rfl m_e ⟨_, rfl⟩) (pa_cons (pe_g m_m G_l hr (pa_cons (pv 0) pa_nil)) (pa_cons (pe_g m_2 G_2 hr (pa_cons (pv 0) (pa_cons (pe_glob (v := .ref a_t) rfl m_1e rfl) pa_nil))) pa_nil))))))), ?_⟩
  obtain ⟨n, rfl, ⟨h1, h2⟩, q⟩ := h
  replace q : RetI C_0 H Q (insO (Sg08.short n)) := q
  
  rw [short_26 h1 h2] at q
  refine ⟨_, rfl, n, rfl, _, rfl, n, _, _, rfl, p_f, by decide, _, _, _, _, rfl, ?_⟩
  replace q : RetI C_0 H Q (iStore _ _ _ ((Sg08.wrap ((_ : Nat) : Int) : Nat) : Int)) := q
  rw [wrap_nat (ssw_lt n)] at q
  rw [g_ssw]
  exact q
theorem sc_1S : FnScope ["half"] ["half"] (defScope (top 138)) := ⟨rfl, rfl, rfl, by decide +kernel, rfl, by decide +kernel, by decide +kernel⟩
theorem ok_1v {f_11 f_g C_0 f_2 a_u f_k : Addr} {t_6 : Tok} (D : Def K "read_stack_store_double" "read_stack_store_double" (top 138) ["half"] f_11) (m_k : mg "of_store" = some (.ref f_g)) (G_j : Ok P w K mg base 3 f_g ["name", "first", "second", "immediate"] (spR4 C_0 iStore)) (m_2 : mg "gather" = some (.ref f_2)) (G_2 : Ok P w K mg base 2 f_2 ["word", "pieces"] (spGather K)) (m_1f : mg "STACK_STORE_DOUBLE_PIECES" = some (.ref a_u)) (m_m : mg "full_at_2" = some (.ref f_k)) (G_l : Ok P w K mg base 2 f_k ["half"] (spN fun w => ((Sg08.bits w 6 2 : Nat) : Int))) (m_e : mg "STACK_POINTER" = some (.int 2 t_6)) (p_g : Pcs K a_u [(7, 3, 6), (10, 3, 3)]) : Ok P w K mg base 4 f_11 ["half"] (spRd C_0 (fun w => Sg08.bits w 1 0 = 2 ∧ Sg08.bits w 15 13 = 7) fun w => insO (Sg08.short w)) := by
  refine D.ok sc_1S spRd_len fun cdv A outer s H vs Q E hr h => ?_
  refine ⟨_, (pss_one (ps_ret (pe_g m_k G_j hr (pa_cons pe_str (pa_cons (pe_glob (v := .int 2) rfl m_e ⟨_, rfl⟩) (pa_cons (pe_g m_m G_l hr (pa_cons (pv 0) pa_nil)) (pa_cons (pe_g m_2 G_2 hr (pa_cons (pv 0) (pa_cons (pe_glob (v := .ref a_u) rfl m_1f rfl) pa_nil))) pa_nil))))))), ?_⟩
  obtain ⟨n, rfl, ⟨h1, h2⟩, q⟩ := h
  replace q : RetI C_0 H Q (insO (Sg08.short n)) := q
  
  rw [short_27 h1 h2] at q
  refine ⟨_, rfl, n, rfl, _, rfl, n, _, _, rfl, p_g, by decide, _, _, _, _, rfl, ?_⟩
  replace q : RetI C_0 H Q (iStore _ _ _ ((Sg08.wrap ((_ : Nat) : Int) : Nat) : Int)) := q
  rw [wrap_nat (ssd_lt n)] at q
  rw [g_ssd]
  exact q
theorem sc_1T : FnScope ["half"] ["half"] (defScope (top 139)) := ⟨rfl, rfl, rfl, by decide +kernel, rfl, by decide +kernel, by decide +kernel⟩
theorem ok_1w {f_1J f_n C_0 f_a f_3 f_k f_e : Addr} (D : Def K "read_move_or_jump" "read_move_or_jump" (top 139) ["half"] f_1J) (m_s : mg "of_jump_to" = some (.ref f_n)) (G_r : Ok P w K mg base 3 f_n ["target", "first", "immediate"] (spR3 C_0 iJumpTo)) (m_7 : mg "full_at_7" = some (.ref f_a)) (G_7 : Ok P w K mg base 2 f_a ["half"] (spN fun w => ((Sg08.bits w 11 7 : Nat) : Int))) (m_3 : mg "of_reserved" = some (.ref f_3)) (G_3 : Ok P w K mg base 4 f_3 [] (spR0 C_0 (iStop "reserved"))) (m_m : mg "full_at_2" = some (.ref f_k)) (G_l : Ok P w K mg base 2 f_k ["half"] (spN fun w => ((Sg08.bits w 6 2 : Nat) : Int))) (m_l : mg "of_registers" = some (.ref f_e)) (G_k : Ok P w K mg base 3 f_e ["name", "target", "first", "second"] (spR4 C_0 iReg)) : Ok P w K mg base 5 f_1J ["half"] (spRd C_0 (fun w => (Sg08.bits w 1 0 = 2 ∧ Sg08.bits w 15 13 = 4) ∧ Sg08.bits w 12 12 = 0) fun w => insO (Sg08.short w)) := by
  refine D.ok sc_1T spRd_len fun cdv A outer s H vs Q E hr h => ?_
  refine ⟨_, (pss_cons (ps_if (pt_cmpR op_ne (pe_g m_m G_l hr (pa_cons (pv 0) pa_nil)) pe_int (nomark _)) (pss_one (ps_ret (pe_g m_l G_k hr (pa_cons pe_str (pa_cons (pe_g m_7 G_7 hr (pa_cons (pv 0) pa_nil)) (pa_cons pe_int (pa_cons (pe_g m_m G_l hr (pa_cons (pv 0) pa_nil)) pa_nil))))))) pss_nil) (pss_cons (ps_if (pt_cmpR op_eq (pe_g m_7 G_7 hr (pa_cons (pv 0) pa_nil)) pe_int (nomark _)) (pss_one (ps_ret (pe_g0 m_3 G_3 hr))) pss_nil) (pss_one (ps_ret (pe_g m_s G_r hr (pa_cons pe_int (pa_cons (pe_g m_7 G_7 hr (pa_cons (pv 0) pa_nil)) (pa_cons pe_int pa_nil)))))))), ?_⟩
  obtain ⟨n, rfl, ⟨⟨h1, h2⟩, h3⟩, q⟩ := h
  replace q : RetI C_0 H Q (insO (Sg08.short n)) := q
  rw [short_24 h1 h2, if_pos h3] at q
  refine ⟨_, rfl, n, rfl, rfl, _, rfl, ?_⟩
  refine ite2 (fun e => ?_) fun e => ?_
  · rw [if_neg (tne (b := 0) e)] at q
    exact ⟨_, rfl, n, rfl, _, rfl, n, rfl, _, _, _, _, rfl, q⟩
  · rw [if_pos (tneF (b := 0) e)] at q
    refine ⟨_, rfl, n, rfl, rfl, _, rfl, ?_⟩
    refine ite2 (fun e => ?_) fun e => ?_
    · rw [if_pos (teq (b := 0) e)] at q
      exact ⟨rfl, q⟩
    · rw [if_neg (teqF (b := 0) e)] at q
      exact ⟨_, rfl, n, rfl, _, _, _, rfl, q⟩
theorem sc_1U : FnScope ["half"] ["half"] (defScope (top 140)) := ⟨rfl, rfl, rfl, by decide +kernel, rfl, by decide +kernel, by decide +kernel⟩
theorem ok_1x {f_1K f_n C_0 f_a f_o f_k f_e : Addr} {t_e : Tok} (D : Def K "read_add_or_call" "read_add_or_call" (top 140) ["half"] f_1K) (m_s : mg "of_jump_to" = some (.ref f_n)) (G_r : Ok P w K mg base 3 f_n ["target", "first", "immediate"] (spR3 C_0 iJumpTo)) (m_7 : mg "full_at_7" = some (.ref f_a)) (G_7 : Ok P w K mg base 2 f_a ["half"] (spN fun w => ((Sg08.bits w 11 7 : Nat) : Int))) (m_1g : mg "LINK" = some (.int 1 t_e)) (m_r : mg "of_stop" = some (.ref f_o)) (G_q : Ok P w K mg base 3 f_o ["name"] (spR1 C_0 iStop)) (m_m : mg "full_at_2" = some (.ref f_k)) (G_l : Ok P w K mg base 2 f_k ["half"] (spN fun w => ((Sg08.bits w 6 2 : Nat) : Int))) (m_l : mg "of_registers" = some (.ref f_e)) (G_k : Ok P w K mg base 3 f_e ["name", "target", "first", "second"] (spR4 C_0 iReg)) : Ok P w K mg base 4 f_1K ["half"] (spRd C_0 (fun w => (Sg08.bits w 1 0 = 2 ∧ Sg08.bits w 15 13 = 4) ∧ ¬ Sg08.bits w 12 12 = 0) fun w => insO (Sg08.short w)) := by
  refine D.ok sc_1U spRd_len fun cdv A outer s H vs Q E hr h => ?_
  refine ⟨_, (pss_cons (ps_if (pt_cmpR op_ne (pe_g m_m G_l hr (pa_cons (pv 0) pa_nil)) pe_int (nomark _)) (pss_one (ps_ret (pe_g m_l G_k hr (pa_cons pe_str (pa_cons (pe_g m_7 G_7 hr (pa_cons (pv 0) pa_nil)) (pa_cons (pe_g m_7 G_7 hr (pa_cons (pv 0) pa_nil)) (pa_cons (pe_g m_m G_l hr (pa_cons (pv 0) pa_nil)) pa_nil))))))) pss_nil) (pss_cons (ps_if (pt_cmpR op_eq (pe_g m_7 G_7 hr (pa_cons (pv 0) pa_nil)) pe_int (nomark _)) (pss_one (ps_ret (pe_g m_r G_q hr (pa_cons pe_str pa_nil)))) pss_nil) (pss_one (ps_ret (pe_g m_s G_r hr (pa_cons (pe_glob (v := .int 1) rfl m_1g ⟨_, rfl⟩) (pa_cons (pe_g m_7 G_7 hr (pa_cons (pv 0) pa_nil)) (pa_cons pe_int pa_nil)))))))), ?_⟩
  obtain ⟨n, rfl, ⟨⟨h1, h2⟩, h3⟩, q⟩ := h
  replace q : RetI C_0 H Q (insO (Sg08.short n)) := q
  rw [short_24 h1 h2, if_neg h3] at q
  refine ⟨_, rfl, n, rfl, rfl, _, rfl, ?_⟩
  refine ite2 (fun e => ?_) fun e => ?_
  · rw [if_neg (tne (b := 0) e)] at q
    exact ⟨_, rfl, n, rfl, _, rfl, n, rfl, _, rfl, n, rfl, _, _, _, _, rfl, q⟩
  · rw [if_pos (tneF (b := 0) e)] at q
    refine ⟨_, rfl, n, rfl, rfl, _, rfl, ?_⟩
    refine ite2 (fun e => ?_) fun e => ?_
    · rw [if_pos (teq (b := 0) e)] at q
      exact ⟨_, rfl, q⟩
    · rw [if_neg (teqF (b := 0) e)] at q
      exact ⟨_, rfl, n, rfl, _, _, _, rfl, q⟩
theorem sc_1V : FnScope ["half"] ["half"] (defScope (top 141)) := ⟨rfl, rfl, rfl, by decide +kernel, rfl, by decide +kernel, by decide +kernel⟩
theorem ok_1y {f_12 f_1K C_0 f_0 f_1J : Addr} (D : Def K "read_full" "read_full" (top 141) ["half"] f_12) (m_1h : mg "read_add_or_call" = some (.ref f_1K)) (G_X : Ok P w K mg base 4 f_1K ["half"] (spRd C_0 (fun w => (Sg08.bits w 1 0 = 2 ∧ Sg08.bits w 15 13 = 4) ∧ ¬ Sg08.bits w 12 12 = 0) fun w => insO (Sg08.short w))) (m_0 : mg "field" = some (.ref f_0)) (G_0 : Ok P w K mg base 1 f_0 ["word", "low", "width"] spField) (m_1i : mg "read_move_or_jump" = some (.ref f_1J)) (G_Y : Ok P w K mg base 5 f_1J ["half"] (spRd C_0 (fun w => (Sg08.bits w 1 0 = 2 ∧ Sg08.bits w 15 13 = 4) ∧ Sg08.bits w 12 12 = 0) fun w => insO (Sg08.short w))) : Ok P w K mg base 6 f_12 ["half"] (spRd C_0 (fun w => Sg08.bits w 1 0 = 2 ∧ Sg08.bits w 15 13 = 4) fun w => insO (Sg08.short w)) := by
  refine D.ok sc_1V spRd_len fun cdv A outer s H vs Q E hr h => ?_
  refine ⟨_, (pss_cons (ps_if (pt_cmpR op_eq (pe_g m_0 G_0 hr (pa_cons (pv 0) (pa_cons pe_int (pa_cons pe_int pa_nil)))) pe_int (nomark _)) (pss_one (ps_ret (pe_g m_1i G_Y hr (pa_cons (pv 0) pa_nil)))) pss_nil) (pss_one (ps_ret (pe_g m_1h G_X hr (pa_cons (pv 0) pa_nil))))), ?_⟩
  obtain ⟨n, rfl, ⟨h1, h2⟩, q⟩ := h
  replace q : RetI C_0 H Q (insO (Sg08.short n)) := q
  
  refine ⟨_, rfl, _, _, _, rfl, ⟨by decide, by decide, by decide⟩, rfl, _, rfl, ?_⟩
  have ef : fieldZ (n : Int) 12 1 = ((Sg08.bits n 12 12 : Nat) : Int) := fieldZ_nat n 12 1
  refine ite2 (fun e => ?_) fun e => ?_
  · exact ⟨_, rfl, n, rfl, ⟨⟨h1, h2⟩, teqZ (b := 0) ef e⟩, q⟩
  · exact ⟨_, rfl, n, rfl, ⟨⟨h1, h2⟩, teqFZ (b := 0) ef e⟩, q⟩
theorem sc_x : FnScope ["half", "place"] ["half"] (defScope (top 143)) := ⟨rfl, rfl, rfl, by decide +kernel, rfl, by decide +kernel, by decide +kernel⟩
theorem ok_1z {f_1L a_6 f_3 C_0 f_0 f_K f_L f_M f_N f_O f_P f_Q f_R f_S f_T f_U f_V f_W f_X f_Y f_Z f_12 f_10 f_11 : Addr} (D : Def K "read_short" "read_short" (top 143) ["half"] f_1L) (m_K : mg "READERS_short_words" = some (.ref a_6)) (m_3 : mg "of_reserved" = some (.ref f_3)) (G_3 : Ok P w K mg base 4 f_3 [] (spR0 C_0 (iStop "reserved"))) (m_0 : mg "field" = some (.ref f_0)) (G_0 : Ok P w K mg base 1 f_0 ["word", "low", "width"] spField) (k_0 : KDT P w K a_6 [([.inl 0, .inl 0], .ref f_K), ([.inl 0, .inl 2], .ref f_L), ([.inl 0, .inl 3], .ref f_M), ([.inl 0, .inl 6], .ref f_N), ([.inl 0, .inl 7], .ref f_O), ([.inl 1, .inl 0], .ref f_P), ([.inl 1, .inl 1], .ref f_Q), ([.inl 1, .inl 2], .ref f_R), ([.inl 1, .inl 3], .ref f_S), ([.inl 1, .inl 4], .ref f_T), ([.inl 1, .inl 5], .ref f_U), ([.inl 1, .inl 6], .ref f_V), ([.inl 1, .inl 7], .ref f_W), ([.inl 2, .inl 0], .ref f_X), ([.inl 2, .inl 2], .ref f_Y), ([.inl 2, .inl 3], .ref f_Z), ([.inl 2, .inl 4], .ref f_12), ([.inl 2, .inl 6], .ref f_10), ([.inl 2, .inl 7], .ref f_11)]) (G_Z : Ok P w K mg base 5 f_K ["half"] (spRd C_0 (fun w => Sg08.bits w 1 0 = 0 ∧ Sg08.bits w 15 13 = 0) fun w => insO (Sg08.short w))) (G_10 : Ok P w K mg base 4 f_L ["half"] (spRd C_0 (fun w => Sg08.bits w 1 0 = 0 ∧ Sg08.bits w 15 13 = 2) fun w => insO (Sg08.short w))) (G_11 : Ok P w K mg base 4 f_M ["half"] (spRd C_0 (fun w => Sg08.bits w 1 0 = 0 ∧ Sg08.bits w 15 13 = 3) fun w => insO (Sg08.short w))) (G_12 : Ok P w K mg base 4 f_N ["half"] (spRd C_0 (fun w => Sg08.bits w 1 0 = 0 ∧ Sg08.bits w 15 13 = 6) fun w => insO (Sg08.short w))) (G_13 : Ok P w K mg base 4 f_O ["half"] (spRd C_0 (fun w => Sg08.bits w 1 0 = 0 ∧ Sg08.bits w 15 13 = 7) fun w => insO (Sg08.short w))) (G_14 : Ok P w K mg base 5 f_P ["half"] (spRd C_0 (fun w => Sg08.bits w 1 0 = 1 ∧ Sg08.bits w 15 13 = 0) fun w => insO (Sg08.short w))) (G_15 : Ok P w K mg base 5 f_Q ["half"] (spRd C_0 (fun w => Sg08.bits w 1 0 = 1 ∧ Sg08.bits w 15 13 = 1) fun w => insO (Sg08.short w))) (G_16 : Ok P w K mg base 5 f_R ["half"] (spRd C_0 (fun w => Sg08.bits w 1 0 = 1 ∧ Sg08.bits w 15 13 = 2) fun w => insO (Sg08.short w))) (G_17 : Ok P w K mg base 6 f_S ["half"] (spRd C_0 (fun w => Sg08.bits w 1 0 = 1 ∧ Sg08.bits w 15 13 = 3) fun w => insO (Sg08.short w))) (G_18 : Ok P w K mg base 6 f_T ["half"] (spRd C_0 (fun w => Sg08.bits w 1 0 = 1 ∧ Sg08.bits w 15 13 = 4) fun w => insO (Sg08.short w))) (G_19 : Ok P w K mg base 4 f_U ["half"] (spRd C_0 (fun w => Sg08.bits w 1 0 = 1 ∧ Sg08.bits w 15 13 = 5) fun w => insO (Sg08.short w))) (G_1a : Ok P w K mg base 4 f_V ["half"] (spRd C_0 (fun w => Sg08.bits w 1 0 = 1 ∧ Sg08.bits w 15 13 = 6) fun w => insO (Sg08.short w))) (G_1b : Ok P w K mg base 4 f_W ["half"] (spRd C_0 (fun w => Sg08.bits w 1 0 = 1 ∧ Sg08.bits w 15 13 = 7) fun w => insO (Sg08.short w))) (G_1c : Ok P w K mg base 4 f_X ["half"] (spRd C_0 (fun w => Sg08.bits w 1 0 = 2 ∧ Sg08.bits w 15 13 = 0) fun w => insO (Sg08.short w))) (G_1d : Ok P w K mg base 5 f_Y ["half"] (spRd C_0 (fun w => Sg08.bits w 1 0 = 2 ∧ Sg08.bits w 15 13 = 2) fun w => insO (Sg08.short w))) (G_1e : Ok P w K mg base 5 f_Z ["half"] (spRd C_0 (fun w => Sg08.bits w 1 0 = 2 ∧ Sg08.bits w 15 13 = 3) fun w => insO (Sg08.short w))) (G_1f : Ok P w K mg base 6 f_12 ["half"] (spRd C_0 (fun w => Sg08.bits w 1 0 = 2 ∧ Sg08.bits w 15 13 = 4) fun w => insO (Sg08.short w))) (G_1g : Ok P w K mg base 4 f_10 ["half"] (spRd C_0 (fun w => Sg08.bits w 1 0 = 2 ∧ Sg08.bits w 15 13 = 6) fun w => insO (Sg08.short w))) (G_1h : Ok P w K mg base 4 f_11 ["half"] (spRd C_0 (fun w => Sg08.bits w 1 0 = 2 ∧ Sg08.bits w 15 13 = 7) fun w => insO (Sg08.short w))) : Ok P w K mg base 7 f_1L ["half"] (spRd C_0 (fun _ => True) fun w => insO (Sg08.short w)) := by
  refine D.ok sc_x spRd_len fun cdv A outer s H vs Q E hr h => ?_
  have hu := hu_of hr
  refine ⟨_, (pss_cons (ps_set (i := 1) sc_x.nd rfl (Or.inl rfl) (pe_tup (pa_cons (pe_g m_0 G_0 hr (pa_cons (pv 0) (pa_cons pe_int (pa_cons pe_int pa_nil)))) (pa_cons (pe_g m_0 G_0 hr (pa_cons (pv 0) (pa_cons pe_int (pa_cons pe_int pa_nil)))) pa_nil)))) (pss_cons (ps_if (pt_cmp (pc_knotin hu (pv 1) (pe_glob (v := .ref a_6) rfl m_K rfl)) rfl) (pss_one (ps_ret (pe_g0 m_3 G_3 hr))) pss_nil) (pss_one (ps_ret (pe_callE (pe_kget hu (pe_glob (v := .ref a_6) rfl m_K rfl) (pv 1) (fun _ _ => rfl)) hr (pa_cons (pv 0) pa_nil)))))), ?_⟩
  obtain ⟨n, rfl, -, q⟩ := h
  replace q : RetI C_0 H Q (insO (Sg08.short n)) := q
  have ef : fieldZ (n : Int) 0 2 = ((Sg08.bits n 1 0 : Nat) : Int) := fieldZ_nat n 0 2
  have eg : fieldZ (n : Int) 13 3 = ((Sg08.bits n 15 13 : Nat) : Int) := fieldZ_nat n 13 3
  have b1 : Sg08.bits n 1 0 < 4 := bits_lt n 1 0
  have b2 : Sg08.bits n 15 13 < 8 := bits_lt n 15 13
  refine ⟨_, rfl, _, _, _, rfl, ⟨by decide, by decide, by decide⟩, _, rfl, _, _, _, rfl, ⟨by decide, by decide, by decide⟩, (by show 2 ≤ sizeLine; decide), fun p hp => ?_⟩
  have hk : ∀ {a b : Nat}, Sg08.bits n 1 0 = a → Sg08.bits n 15 13 = b → upd H p (.tup [.int (fieldZ (n : Int) 0 2), .int (fieldZ (n : Int) 13 3)]) p = some (.tup [.int ((a : Nat) : Int), .int ((b : Nat) : Int)]) := fun e f => by rw [upd_same, ef, eg, e, f]
  have lq := q.laid (o := .tup [.int (fieldZ (n : Int) 0 2), .int (fieldZ (n : Int) 13 3)]) hp
  rcases (show Sg08.bits n 1 0 = 0 ∨ Sg08.bits n 1 0 = 1 ∨ Sg08.bits n 1 0 = 2 ∨ Sg08.bits n 1 0 = 3 by omega) with e | e | e | e
  · rcases (show Sg08.bits n 15 13 = 0 ∨ Sg08.bits n 15 13 = 1 ∨ Sg08.bits n 15 13 = 2 ∨ Sg08.bits n 15 13 = 3 ∨ Sg08.bits n 15 13 = 4 ∨ Sg08.bits n 15 13 = 5 ∨ Sg08.bits n 15 13 = 6 ∨ Sg08.bits n 15 13 = 7 by omega) with f | f | f | f | f | f | f | f
    · exact ⟨_, rfl, _, some (.ref f_K), rfl, .inr ⟨_, [.inl 0, .inl 0], p, k_0, rfl, hk e f, rfl⟩, _, rfl, iteF ⟨_, rfl, _, .ref f_K, rfl, .inr ⟨_, [.inl 0, .inl 0], p, k_0, rfl, hk e f, rfl⟩, _, _, _, _, rfl, by decide, G_Z, _, rfl, n, rfl, ⟨e, f⟩, lq⟩⟩
    · have es : Sg08.short n = none := by unfold Sg08.short; rw [e, f]; rfl
      rw [es] at lq
      exact ⟨_, rfl, _, Option.none, rfl, .inr ⟨_, [.inl 0, .inl 1], p, k_0, rfl, hk e f, rfl⟩, _, rfl, iteT ⟨rfl, lq⟩⟩
    · exact ⟨_, rfl, _, some (.ref f_L), rfl, .inr ⟨_, [.inl 0, .inl 2], p, k_0, rfl, hk e f, rfl⟩, _, rfl, iteF ⟨_, rfl, _, .ref f_L, rfl, .inr ⟨_, [.inl 0, .inl 2], p, k_0, rfl, hk e f, rfl⟩, _, _, _, _, rfl, by decide, G_10, _, rfl, n, rfl, ⟨e, f⟩, lq⟩⟩
    · exact ⟨_, rfl, _, some (.ref f_M), rfl, .inr ⟨_, [.inl 0, .inl 3], p, k_0, rfl, hk e f, rfl⟩, _, rfl, iteF ⟨_, rfl, _, .ref f_M, rfl, .inr ⟨_, [.inl 0, .inl 3], p, k_0, rfl, hk e f, rfl⟩, _, _, _, _, rfl, by decide, G_11, _, rfl, n, rfl, ⟨e, f⟩, lq⟩⟩
    · have es : Sg08.short n = none := by unfold Sg08.short; rw [e, f]; rfl
      rw [es] at lq
      exact ⟨_, rfl, _, Option.none, rfl, .inr ⟨_, [.inl 0, .inl 4], p, k_0, rfl, hk e f, rfl⟩, _, rfl, iteT ⟨rfl, lq⟩⟩
    · have es : Sg08.short n = none := by unfold Sg08.short; rw [e, f]; rfl
      rw [es] at lq
      exact ⟨_, rfl, _, Option.none, rfl, .inr ⟨_, [.inl 0, .inl 5], p, k_0, rfl, hk e f, rfl⟩, _, rfl, iteT ⟨rfl, lq⟩⟩
    · exact ⟨_, rfl, _, some (.ref f_N), rfl, .inr ⟨_, [.inl 0, .inl 6], p, k_0, rfl, hk e f, rfl⟩, _, rfl, iteF ⟨_, rfl, _, .ref f_N, rfl, .inr ⟨_, [.inl 0, .inl 6], p, k_0, rfl, hk e f, rfl⟩, _, _, _, _, rfl, by decide, G_12, _, rfl, n, rfl, ⟨e, f⟩, lq⟩⟩
    · exact ⟨_, rfl, _, some (.ref f_O), rfl, .inr ⟨_, [.inl 0, .inl 7], p, k_0, rfl, hk e f, rfl⟩, _, rfl, iteF ⟨_, rfl, _, .ref f_O, rfl, .inr ⟨_, [.inl 0, .inl 7], p, k_0, rfl, hk e f, rfl⟩, _, _, _, _, rfl, by decide, G_13, _, rfl, n, rfl, ⟨e, f⟩, lq⟩⟩
  · rcases (show Sg08.bits n 15 13 = 0 ∨ Sg08.bits n 15 13 = 1 ∨ Sg08.bits n 15 13 = 2 ∨ Sg08.bits n 15 13 = 3 ∨ Sg08.bits n 15 13 = 4 ∨ Sg08.bits n 15 13 = 5 ∨ Sg08.bits n 15 13 = 6 ∨ Sg08.bits n 15 13 = 7 by omega) with f | f | f | f | f | f | f | f
    · exact ⟨_, rfl, _, some (.ref f_P), rfl, .inr ⟨_, [.inl 1, .inl 0], p, k_0, rfl, hk e f, rfl⟩, _, rfl, iteF ⟨_, rfl, _, .ref f_P, rfl, .inr ⟨_, [.inl 1, .inl 0], p, k_0, rfl, hk e f, rfl⟩, _, _, _, _, rfl, by decide, G_14, _, rfl, n, rfl, ⟨e, f⟩, lq⟩⟩
    · exact ⟨_, rfl, _, some (.ref f_Q), rfl, .inr ⟨_, [.inl 1, .inl 1], p, k_0, rfl, hk e f, rfl⟩, _, rfl, iteF ⟨_, rfl, _, .ref f_Q, rfl, .inr ⟨_, [.inl 1, .inl 1], p, k_0, rfl, hk e f, rfl⟩, _, _, _, _, rfl, by decide, G_15, _, rfl, n, rfl, ⟨e, f⟩, lq⟩⟩
    · exact ⟨_, rfl, _, some (.ref f_R), rfl, .inr ⟨_, [.inl 1, .inl 2], p, k_0, rfl, hk e f, rfl⟩, _, rfl, iteF ⟨_, rfl, _, .ref f_R, rfl, .inr ⟨_, [.inl 1, .inl 2], p, k_0, rfl, hk e f, rfl⟩, _, _, _, _, rfl, by decide, G_16, _, rfl, n, rfl, ⟨e, f⟩, lq⟩⟩
    · exact ⟨_, rfl, _, some (.ref f_S), rfl, .inr ⟨_, [.inl 1, .inl 3], p, k_0, rfl, hk e f, rfl⟩, _, rfl, iteF ⟨_, rfl, _, .ref f_S, rfl, .inr ⟨_, [.inl 1, .inl 3], p, k_0, rfl, hk e f, rfl⟩, _, _, _, _, rfl, by decide, G_17, _, rfl, n, rfl, ⟨e, f⟩, lq⟩⟩
    · exact ⟨_, rfl, _, some (.ref f_T), rfl, .inr ⟨_, [.inl 1, .inl 4], p, k_0, rfl, hk e f, rfl⟩, _, rfl, iteF ⟨_, rfl, _, .ref f_T, rfl, .inr ⟨_, [.inl 1, .inl 4], p, k_0, rfl, hk e f, rfl⟩, _, _, _, _, rfl, by decide, G_18, _, rfl, n, rfl, ⟨e, f⟩, lq⟩⟩
    · exact ⟨_, rfl, _, some (.ref f_U), rfl, .inr ⟨_, [.inl 1, .inl 5], p, k_0, rfl, hk e f, rfl⟩, _, rfl, iteF ⟨_, rfl, _, .ref f_U, rfl, .inr ⟨_, [.inl 1, .inl 5], p, k_0, rfl, hk e f, rfl⟩, _, _, _, _, rfl, by decide, G_19, _, rfl, n, rfl, ⟨e, f⟩, lq⟩⟩
    · exact ⟨_, rfl, _, some (.ref f_V), rfl, .inr ⟨_, [.inl 1, .inl 6], p, k_0, rfl, hk e f, rfl⟩, _, rfl, iteF ⟨_, rfl, _, .ref f_V, rfl, .inr ⟨_, [.inl 1, .inl 6], p, k_0, rfl, hk e f, rfl⟩, _, _, _, _, rfl, by decide, G_1a, _, rfl, n, rfl, ⟨e, f⟩, lq⟩⟩
    · exact ⟨_, rfl, _, some (.ref f_W), rfl, .inr ⟨_, [.inl 1, .inl 7], p, k_0, rfl, hk e f, rfl⟩, _, rfl, iteF ⟨_, rfl, _, .ref f_W, rfl, .inr ⟨_, [.inl 1, .inl 7], p, k_0, rfl, hk e f, rfl⟩, _, _, _, _, rfl, by decide, G_1b, _, rfl, n, rfl, ⟨e, f⟩, lq⟩⟩
  · rcases (show Sg08.bits n 15 13 = 0 ∨ Sg08.bits n 15 13 = 1 ∨ Sg08.bits n 15 13 = 2 ∨ Sg08.bits n 15 13 = 3 ∨ Sg08.bits n 15 13 = 4 ∨ Sg08.bits n 15 13 = 5 ∨ Sg08.bits n 15 13 = 6 ∨ Sg08.bits n 15 13 = 7 by omega) with f | f | f | f | f | f | f | f
    · exact ⟨_, rfl, _, some (.ref f_X), rfl, .inr ⟨_, [.inl 2, .inl 0], p, k_0, rfl, hk e f, rfl⟩, _, rfl, iteF ⟨_, rfl, _, .ref f_X, rfl, .inr ⟨_, [.inl 2, .inl 0], p, k_0, rfl, hk e f, rfl⟩, _, _, _, _, rfl, by decide, G_1c, _, rfl, n, rfl, ⟨e, f⟩, lq⟩⟩
    · have es : Sg08.short n = none := by unfold Sg08.short; rw [e, f]; rfl
      rw [es] at lq
      exact ⟨_, rfl, _, Option.none, rfl, .inr ⟨_, [.inl 2, .inl 1], p, k_0, rfl, hk e f, rfl⟩, _, rfl, iteT ⟨rfl, lq⟩⟩
    · exact ⟨_, rfl, _, some (.ref f_Y), rfl, .inr ⟨_, [.inl 2, .inl 2], p, k_0, rfl, hk e f, rfl⟩, _, rfl, iteF ⟨_, rfl, _, .ref f_Y, rfl, .inr ⟨_, [.inl 2, .inl 2], p, k_0, rfl, hk e f, rfl⟩, _, _, _, _, rfl, by decide, G_1d, _, rfl, n, rfl, ⟨e, f⟩, lq⟩⟩
    · exact ⟨_, rfl, _, some (.ref f_Z), rfl, .inr ⟨_, [.inl 2, .inl 3], p, k_0, rfl, hk e f, rfl⟩, _, rfl, iteF ⟨_, rfl, _, .ref f_Z, rfl, .inr ⟨_, [.inl 2, .inl 3], p, k_0, rfl, hk e f, rfl⟩, _, _, _, _, rfl, by decide, G_1e, _, rfl, n, rfl, ⟨e, f⟩, lq⟩⟩
    · exact ⟨_, rfl, _, some (.ref f_12), rfl, .inr ⟨_, [.inl 2, .inl 4], p, k_0, rfl, hk e f, rfl⟩, _, rfl, iteF ⟨_, rfl, _, .ref f_12, rfl, .inr ⟨_, [.inl 2, .inl 4], p, k_0, rfl, hk e f, rfl⟩, _, _, _, _, rfl, by decide, G_1f, _, rfl, n, rfl, ⟨e, f⟩, lq⟩⟩
    · have es : Sg08.short n = none := by unfold Sg08.short; rw [e, f]; rfl
      rw [es] at lq
      exact ⟨_, rfl, _, Option.none, rfl, .inr ⟨_, [.inl 2, .inl 5], p, k_0, rfl, hk e f, rfl⟩, _, rfl, iteT ⟨rfl, lq⟩⟩
    · exact ⟨_, rfl, _, some (.ref f_10), rfl, .inr ⟨_, [.inl 2, .inl 6], p, k_0, rfl, hk e f, rfl⟩, _, rfl, iteF ⟨_, rfl, _, .ref f_10, rfl, .inr ⟨_, [.inl 2, .inl 6], p, k_0, rfl, hk e f, rfl⟩, _, _, _, _, rfl, by decide, G_1g, _, rfl, n, rfl, ⟨e, f⟩, lq⟩⟩
    · exact ⟨_, rfl, _, some (.ref f_11), rfl, .inr ⟨_, [.inl 2, .inl 7], p, k_0, rfl, hk e f, rfl⟩, _, rfl, iteF ⟨_, rfl, _, .ref f_11, rfl, .inr ⟨_, [.inl 2, .inl 7], p, k_0, rfl, hk e f, rfl⟩, _, _, _, _, rfl, by decide, G_1h, _, rfl, n, rfl, ⟨e, f⟩, lq⟩⟩
  · rcases (show Sg08.bits n 15 13 = 0 ∨ Sg08.bits n 15 13 = 1 ∨ Sg08.bits n 15 13 = 2 ∨ Sg08.bits n 15 13 = 3 ∨ Sg08.bits n 15 13 = 4 ∨ Sg08.bits n 15 13 = 5 ∨ Sg08.bits n 15 13 = 6 ∨ Sg08.bits n 15 13 = 7 by omega) with f | f | f | f | f | f | f | f
    · have es : Sg08.short n = none := by unfold Sg08.short; rw [e, f]; rfl
      rw [es] at lq
      exact ⟨_, rfl, _, Option.none, rfl, .inr ⟨_, [.inl 3, .inl 0], p, k_0, rfl, hk e f, rfl⟩, _, rfl, iteT ⟨rfl, lq⟩⟩
    · have es : Sg08.short n = none := by unfold Sg08.short; rw [e, f]; rfl
      rw [es] at lq
      exact ⟨_, rfl, _, Option.none, rfl, .inr ⟨_, [.inl 3, .inl 1], p, k_0, rfl, hk e f, rfl⟩, _, rfl, iteT ⟨rfl, lq⟩⟩
    · have es : Sg08.short n = none := by unfold Sg08.short; rw [e, f]; rfl
      rw [es] at lq
      exact ⟨_, rfl, _, Option.none, rfl, .inr ⟨_, [.inl 3, .inl 2], p, k_0, rfl, hk e f, rfl⟩, _, rfl, iteT ⟨rfl, lq⟩⟩
    · have es : Sg08.short n = none := by unfold Sg08.short; rw [e, f]; rfl
      rw [es] at lq
      exact ⟨_, rfl, _, Option.none, rfl, .inr ⟨_, [.inl 3, .inl 3], p, k_0, rfl, hk e f, rfl⟩, _, rfl, iteT ⟨rfl, lq⟩⟩
    · have es : Sg08.short n = none := by unfold Sg08.short; rw [e, f]; rfl
      rw [es] at lq
      exact ⟨_, rfl, _, Option.none, rfl, .inr ⟨_, [.inl 3, .inl 4], p, k_0, rfl, hk e f, rfl⟩, _, rfl, iteT ⟨rfl, lq⟩⟩
    · have es : Sg08.short n = none := by unfold Sg08.short; rw [e, f]; rfl
      rw [es] at lq
      exact ⟨_, rfl, _, Option.none, rfl, .inr ⟨_, [.inl 3, .inl 5], p, k_0, rfl, hk e f, rfl⟩, _, rfl, iteT ⟨rfl, lq⟩⟩
    · have es : Sg08.short n = none := by unfold Sg08.short; rw [e, f]; rfl
      rw [es] at lq
      exact ⟨_, rfl, _, Option.none, rfl, .inr ⟨_, [.inl 3, .inl 6], p, k_0, rfl, hk e f, rfl⟩, _, rfl, iteT ⟨rfl, lq⟩⟩
    · have es : Sg08.short n = none := by unfold Sg08.short; rw [e, f]; rfl
      rw [es] at lq
      exact ⟨_, rfl, _, Option.none, rfl, .inr ⟨_, [.inl 3, .inl 7], p, k_0, rfl, hk e f, rfl⟩, _, rfl, iteT ⟨rfl, lq⟩⟩
end
end Sp8
end
section
namespace Sp8
open Sg08Neutral (S)
abbrev CallL := List (List Int)
structure Left (r : List Int) (cs : List CallL) : Prop where
  ex : ∃ f, PyFlat.calls PySg08.shape f r = some cs
  ok : ∀ c ∈ cs, Sg08Neutral.asked1 (PySg08.whole c) = true
theorem left_nil {cs : List CallL} (h : Left [] cs) : cs = [] := by
  obtain ⟨f, e⟩ := h.ex
  cases f <;> · simp [PyFlat.calls] at e; exact e
theorem left_cons {p : Int} {r : List Int} {cs : List CallL} (h : Left (p :: r) cs) :
    ∃ c t cs', cs = c :: cs' ∧ PyFlat.call PySg08.shape (p :: r) = some (c, t) ∧ Left t cs' ∧ Sg08Neutral.asked1 (PySg08.whole c) = true := by
  obtain ⟨f, e⟩ := h.ex
  cases f with
  | zero => simp [PyFlat.calls] at e
  | succ f =>
    simp only [PyFlat.calls] at e
    cases q : PyFlat.call PySg08.shape (p :: r) with
    | none => rw [q] at e; simp at e
    | some ct =>
      obtain ⟨c, t⟩ := ct
      rw [q] at e
      simp only at e
      cases q2 : PyFlat.calls PySg08.shape f t with
      | none => rw [q2] at e; simp at e
      | some cs' =>
        rw [q2] at e
        simp only [Option.some.injEq] at e
        subst e
        exact ⟨c, t, cs', rfl, rfl, ⟨⟨f, q2⟩, fun c' hc => h.ok c' (List.mem_cons_of_mem _ hc)⟩, h.ok c List.mem_cons_self⟩
inductive Next : List Int → CallL → List Int → Prop
  | put (a : Int) (row t : List Int) (h1 : -2147483648 ≤ a ∧ a ≤ 2147483647) (h2 : ∀ z ∈ row, 0 ≤ z ∧ z < 256) : Next (1 :: a :: (row.length : Int) :: (row ++ t)) [[1, a], row] t
  | take (a b : Int) (t : List Int) (h1 : -2147483648 ≤ a ∧ a ≤ 2147483647) (h2 : -2147483648 ≤ b ∧ b ≤ 2147483647) (h3 : b ≤ 2000 ∨ 65536 < b) : Next (2 :: a :: b :: t) [[2, a, b]] t
  | set (a b : Int) (t : List Int) (h1 : -2147483648 ≤ a ∧ a ≤ 2147483647) (h2 : 0 ≤ b ∧ b < 2 ^ 64) : Next (3 :: a :: b :: t) [[3, a, b]] t
  | get (a : Int) (t : List Int) (h1 : -2147483648 ≤ a ∧ a ≤ 2147483647) : Next (4 :: a :: t) [[4, a]] t
  | run (a : Int) (t : List Int) (h1 : -(2 ^ 63) ≤ a ∧ a < 2 ^ 63) : Next (5 :: a :: t) [[5, a]] t
  | why (t : List Int) : Next (6 :: t) [[6]] t
theorem whole32_iff {z : Int} (h : Sg08Neutral.whole32 z = true) : -2147483648 ≤ z ∧ z ≤ 2147483647 := by
  unfold Sg08Neutral.whole32 at h
  simp only [Bool.and_eq_true, decide_eq_true_eq] at h
  omega
theorem nat8 {z : Int} (h : Sg08Neutral.natural z 8 = true) : 0 ≤ z ∧ z < 256 := by
  unfold Sg08Neutral.natural at h
  simp only [Bool.and_eq_true, decide_eq_true_eq] at h
  omega
theorem shape_some {p : Int} {x : Nat × Nat} (h : PySg08.shape p = some x) : (p = 1 ∧ x = (1, 1)) ∨ (p = 2 ∧ x = (2, 0)) ∨ (p = 3 ∧ x = (2, 0)) ∨ (p = 4 ∧ x = (1, 0)) ∨ (p = 5 ∧ x = (1, 0)) ∨ (p = 6 ∧ x = (0, 0)) := by
  unfold PySg08.shape at h
  split at h
  · rename_i e; simp at h; subst e; subst h; simp
  · split at h
    · rename_i e; simp at h; subst e; subst h; simp
    · split at h
      · rename_i e; simp at h; subst e; subst h; simp
      · split at h
        · rename_i e; simp at h; subst e; subst h; simp
        · split at h
          · rename_i e; simp at h; subst e; subst h; simp
          · split at h
            · rename_i e; simp at h; subst e; subst h; simp
            · simp at h
theorem next_of {p : Int} {r t : List Int} {c : CallL} (h : PyFlat.call PySg08.shape (p :: r) = some (c, t)) (ha : Sg08Neutral.asked1 (PySg08.whole c) = true) : Next (p :: r) c t := by
  simp only [PyFlat.call] at h
  cases q : PySg08.shape p with
  | none => rw [q] at h; simp at h
  | some x =>
    obtain ⟨n, k⟩ := x
    rw [q] at h
    simp only at h
    split at h
    · simp at h
    rename_i hlen
    rcases shape_some q with ⟨rfl, e⟩ | ⟨rfl, e⟩ | ⟨rfl, e⟩ | ⟨rfl, e⟩ | ⟨rfl, e⟩ | ⟨rfl, e⟩ <;> (simp only [Prod.mk.injEq] at e; obtain ⟨rfl, rfl⟩ := e)
    · -- put
      cases r with
      | nil => simp at hlen
      | cons a r =>
        simp only [List.drop_succ_cons, List.drop_zero, List.take_succ_cons, List.take_zero, PyFlat.rows] at h
        cases r with
        | nil => simp [PyFlat.row] at h
        | cons m r =>
          simp only [PyFlat.row] at h
          by_cases hm : 0 ≤ m ∧ m.toNat ≤ r.length
          · rw [if_pos hm] at h
            simp only [Option.some.injEq, Prod.mk.injEq] at h
            obtain ⟨rfl, rfl⟩ := h
            have ha : (Sg08Neutral.whole32 a && ((List.take m.toNat r).all (fun (z : Int) => Sg08Neutral.natural z 8) && Sg08Neutral.short (List.take m.toNat r) 65600)) = true := ha
            simp only [Bool.and_eq_true] at ha
            have el : ((List.take m.toNat r).length : Int) = m := by rw [List.length_take]; omega
            have key := Next.put a (List.take m.toNat r) (List.drop m.toNat r) (whole32_iff ha.1) (fun z hz => nat8 (List.all_eq_true.mp ha.2.1 z hz))
            rw [el, List.take_append_drop] at key
            exact key
          · rw [if_neg hm] at h; simp at h
    · cases r with
      | nil => simp at hlen
      | cons a r =>
        cases r with
        | nil => simp at hlen
        | cons b r =>
          simp only [List.drop_succ_cons, List.drop_zero, List.take_succ_cons, List.take_zero, PyFlat.rows, Option.some.injEq, Prod.mk.injEq] at h
          obtain ⟨rfl, rfl⟩ := h
          have ha : (Sg08Neutral.whole32 a && (Sg08Neutral.whole32 b && (decide (b ≤ 2000) || decide (65536 < b)))) = true := ha
          simp only [Bool.and_eq_true, Bool.or_eq_true, decide_eq_true_eq] at ha
          exact .take a b r (whole32_iff ha.1) (whole32_iff ha.2.1) ha.2.2
    · cases r with
      | nil => simp at hlen
      | cons a r =>
        cases r with
        | nil => simp at hlen
        | cons b r =>
          simp only [List.drop_succ_cons, List.drop_zero, List.take_succ_cons, List.take_zero, PyFlat.rows, Option.some.injEq, Prod.mk.injEq] at h
          obtain ⟨rfl, rfl⟩ := h
          have ha : (Sg08Neutral.whole32 a && Sg08Neutral.natural b 64) = true := ha
          unfold Sg08Neutral.natural at ha
          simp only [Bool.and_eq_true, decide_eq_true_eq] at ha
          exact .set a b r (whole32_iff ha.1) ha.2
    · cases r with
      | nil => simp at hlen
      | cons a r =>
        simp only [List.drop_succ_cons, List.drop_zero, List.take_succ_cons, List.take_zero, PyFlat.rows, Option.some.injEq, Prod.mk.injEq] at h
        obtain ⟨rfl, rfl⟩ := h
        exact .get a r (whole32_iff ha)
    · cases r with
      | nil => simp at hlen
      | cons a r =>
        simp only [List.drop_succ_cons, List.drop_zero, List.take_succ_cons, List.take_zero, PyFlat.rows, Option.some.injEq, Prod.mk.injEq] at h
        obtain ⟨rfl, rfl⟩ := h
        have ha : (decide (-(2 ^ 63) ≤ a) && decide (a < 2 ^ 63)) = true := ha
        simp only [Bool.and_eq_true, decide_eq_true_eq] at ha
        exact .run a r ha
    · simp only [List.drop_zero, List.take_zero, PyFlat.rows, Option.some.injEq, Prod.mk.injEq] at h
      obtain ⟨rfl, rfl⟩ := h
      exact .why r
theorem Next.whole {r t : List Int} {c : CallL} (h : Next r c t) : PySg08.whole c = c := by cases h <;> rfl
def due (s : S) (cs : List CallL) : List Int := PyFlat.told (PyFlat.played Sg08Neutral.step s (cs.map PySg08.whole))
theorem due_nil (s : S) : due s [] = [] := rfl
theorem due_cons {s : S} {c : CallL} {cs : List CallL} (h : PySg08.whole c = c) :
    due s (c :: cs) = ((Sg08Neutral.step s c).2.length : Int) :: (Sg08Neutral.step s c).2 ++ due (Sg08Neutral.step s c).1 cs := by
  unfold due
  rw [List.map_cons, h]
  rfl
theorem start {l : List Int} (h : PySg08.answers_asked l = true) : ∃ cs, Left l cs ∧ cs.length ≤ 400 ∧ PySg08.answers l = due Sg08.fresh cs := by
  unfold PySg08.answers_asked at h
  unfold PySg08.answers
  unfold PySg08.calls at h ⊢
  cases q : PyFlat.calls PySg08.shape l.length l with
  | none => rw [q] at h; simp at h
  | some cs =>
    rw [q] at h
    simp only [Bool.and_eq_true, PyFlat.atMost, Sg08Neutral.asked, decide_eq_true_eq] at h
    refine ⟨cs, ⟨⟨_, q⟩, fun c hc => ?_⟩, ?_, rfl⟩
    · exact List.all_eq_true.mp h.2.1 _ (List.mem_map_of_mem hc)
    · have := h.1; simpa using this
end Sp8
end
section
namespace Sp8
open PySem PySem.Spec PyProof.Rows L2
open Sg08 (Alu WORD Instr Machine)
def cellsV (m : Nat → UInt8) : List V := (List.range 65536).map fun i => V.int (((m i).toNat : Nat) : Int)
def regsV (r : Nat → Nat) : List V := (List.range 32).map fun i => V.int ((r i : Nat) : Int)
theorem cellsV_len (m : Nat → UInt8) : (cellsV m).length = 65536 := by unfold cellsV; rw [List.length_map, List.length_range]
theorem regsV_len (r : Nat → Nat) : (regsV r).length = 32 := by unfold regsV; rw [List.length_map, List.length_range]
theorem cellsV_get {m : Nat → UInt8} {i : Nat} (h : i < 65536) : (cellsV m)[i]? = some (.int (((m i).toNat : Nat) : Int)) := by
  unfold cellsV; rw [List.getElem?_map, List.getElem?_range h]; rfl
theorem regsV_get {r : Nat → Nat} {i : Nat} (h : i < 32) : (regsV r)[i]? = some (.int ((r i : Nat) : Int)) := by
  unfold regsV; rw [List.getElem?_map, List.getElem?_range h]; rfl
theorem regsV_set {r : Nat → Nat} {i v : Nat} (h : i < 32) : (regsV r).set i (.int ((v : Nat) : Int)) = regsV (fun j => if j = i then v else r j) := by
  apply List.ext_getElem?
  intro j
  by_cases hj : j < 32
  · rw [regsV_get hj]
    by_cases e : j = i
    · subst e; rw [List.getElem?_set_self (by rw [regsV_len]; exact hj), if_pos rfl]
    · rw [List.getElem?_set_ne (fun z => e z.symm), regsV_get hj, if_neg e]
  · rw [List.getElem?_eq_none (by rw [List.length_set, regsV_len]; omega), List.getElem?_eq_none (by rw [regsV_len]; omega)]
theorem ixN_nat {n : Nat} {j : Nat} (h : j < n) : ixN n ((j : Nat) : Int) = some j := by
  unfold ixN; rw [if_pos (by omega), if_pos (by omega), Int.toNat_natCast]
def wr (cs : List V) (p : Nat) : List V → List V
  | [] => cs
  | y :: ys => wr (cs.set p y) (p + 1) ys
theorem wr_len : ∀ (ys cs : List V) (p : Nat), (wr cs p ys).length = cs.length
  | [], _, _ => rfl
  | y :: ys, cs, p => by show (wr (cs.set p y) (p + 1) ys).length = _; rw [wr_len ys, List.length_set]
theorem wr_snoc : ∀ (ys cs : List V) (p : Nat) (y : V), wr cs p (ys ++ [y]) = (wr cs p ys).set (p + ys.length) y
  | [], _, _, _ => rfl
  | z :: ys, cs, p, y => by
    show wr (cs.set p z) (p + 1) (ys ++ [y]) = (wr (cs.set p z) (p + 1) ys).set (p + (ys.length + 1)) y
    rw [wr_snoc ys, show p + 1 + ys.length = p + (ys.length + 1) by omega]
theorem wr_get : ∀ (ys cs : List V) (p i : Nat), p + ys.length ≤ cs.length → (wr cs p ys)[i]? = if p ≤ i ∧ i < p + ys.length then ys[i - p]? else cs[i]?
  | [], cs, p, i, _ => by rw [if_neg (by simp)]; rfl
  | y :: ys, cs, p, i, h => by
    have h : p + (ys.length + 1) ≤ cs.length := h
    show (wr (cs.set p y) (p + 1) ys)[i]? = if p ≤ i ∧ i < p + (ys.length + 1) then (y :: ys)[i - p]? else cs[i]?
    rw [wr_get ys _ _ _ (by rw [List.length_set]; omega)]
    by_cases hi : i = p
    · subst hi
      rw [if_neg (by omega), if_pos (by omega), List.getElem?_set_self (by omega), Nat.sub_self]; rfl
    · by_cases hin : p + 1 ≤ i ∧ i < p + 1 + ys.length
      · rw [if_pos hin, if_pos (by omega), show i - p = (i - (p + 1)) + 1 by omega, List.getElem?_cons_succ]
      · rw [if_neg hin, if_neg (by omega), List.getElem?_set_ne (fun z => hi z.symm)]
theorem wr_cells (m : Nat → UInt8) (p : Nat) (b : List Int) (hb : ∀ z ∈ b, 0 ≤ z ∧ z < 256) (h : p + b.length ≤ 65536) :
    wr (cellsV m) p (b.map V.int) = cellsV (fun i => if p ≤ i then (((Sg08Neutral.bytesOf b)[i - p]?).getD (m i)) else m i) := by
  apply List.ext_getElem?
  intro i
  rw [wr_get _ _ _ _ (by rw [List.length_map, cellsV_len]; exact h), List.length_map]
  by_cases hi : i < 65536
  · rw [cellsV_get hi, cellsV_get hi]
    by_cases hin : p ≤ i ∧ i < p + b.length
    · rw [if_pos hin, if_pos hin.1]
      have hl : i - p < b.length := by omega
      unfold Sg08Neutral.bytesOf
      rw [List.getElem?_map, List.getElem?_map, List.getElem?_eq_getElem hl]
      obtain ⟨h0, h1⟩ := hb _ (List.getElem_mem hl)
      show some (V.int b[i - p]) = some (V.int (((UInt8.ofNat b[i - p].toNat).toNat : Nat) : Int))
      rw [UInt8.toNat_ofNat']
      congr 2
      omega
    · rw [if_neg hin]
      by_cases hp : p ≤ i
      · rw [if_pos hp]
        unfold Sg08Neutral.bytesOf
        rw [List.getElem?_eq_none (by rw [List.length_map]; omega)]; rfl
      · rw [if_neg hp]
  · rw [if_neg (by omega), List.getElem?_eq_none (by rw [cellsV_len]; omega), List.getElem?_eq_none (by rw [cellsV_len]; omega)]
structure Ad where
  x : Addr
  dx : Addr
  mem : Addr
  dm : Addr
  cells : Addr
  regs : Addr
  known : Addr
def memF (c : Addr) : List (Str × V) := [("cells", .ref c)]
def mF (a : Ad) (pc why : Int) : List (Str × V) := [("memory", .ref a.mem), ("registers", .ref a.regs), ("pc", .int pc), ("reason", .int why), ("known_words", .ref a.known)]
theorem mk1 : ¬ ("memory" : Str) = "registers" := by decide +kernel
theorem mk2 : ¬ ("memory" : Str) = "pc" := by decide +kernel
theorem mk3 : ¬ ("memory" : Str) = "reason" := by decide +kernel
theorem mk4 : ¬ ("memory" : Str) = "known_words" := by decide +kernel
theorem mk5 : ¬ ("registers" : Str) = "pc" := by decide +kernel
theorem mk6 : ¬ ("registers" : Str) = "reason" := by decide +kernel
theorem mk7 : ¬ ("registers" : Str) = "known_words" := by decide +kernel
theorem mk8 : ¬ ("pc" : Str) = "reason" := by decide +kernel
theorem mk9 : ¬ ("pc" : Str) = "known_words" := by decide +kernel
theorem mk10 : ¬ ("reason" : Str) = "known_words" := by decide +kernel
section
variable (a : Ad) (pc why : Int)
theorem mF_memory : (mF a pc why).lookup ("memory" : Str) = some (.ref a.mem) := look_hit
theorem mF_registers : (mF a pc why).lookup ("registers" : Str) = some (.ref a.regs) := by unfold mF; rw [look_miss (fun e => mk1 e.symm)]; exact look_hit
theorem mF_pc : (mF a pc why).lookup ("pc" : Str) = some (.int pc) := by unfold mF; rw [look_miss (fun e => mk2 e.symm), look_miss (fun e => mk5 e.symm)]; exact look_hit
theorem mF_reason : (mF a pc why).lookup ("reason" : Str) = some (.int why) := by unfold mF; rw [look_miss (fun e => mk3 e.symm), look_miss (fun e => mk6 e.symm), look_miss (fun e => mk8 e.symm)]; exact look_hit
theorem mF_known : (mF a pc why).lookup ("known_words" : Str) = some (.ref a.known) := by unfold mF; rw [look_miss (fun e => mk4 e.symm), look_miss (fun e => mk7 e.symm), look_miss (fun e => mk9 e.symm), look_miss (fun e => mk10 e.symm)]; exact look_hit
theorem mF_setpc (z : Int) : putF "pc" (.int z) (mF a pc why) = mF a z why := by simp only [putF, mF, if_neg mk2, if_neg mk5, if_true]
theorem mF_setreason (z : Int) : putF "reason" (.int z) (mF a pc why) = mF a pc z := by simp only [putF, mF, if_neg mk3, if_neg mk6, if_neg mk8, if_true]
theorem mF_no {x : Str} (h1 : ¬ x = "memory") (h2 : ¬ x = "registers") (h3 : ¬ x = "pc") (h4 : ¬ x = "reason") (h5 : ¬ x = "known_words") : (mF a pc why).lookup x = none := by
  unfold mF; rw [look_miss h1, look_miss h2, look_miss h3, look_miss h4, look_miss h5]; rfl
end
theorem memF_cells (c : Addr) : (memF c).lookup ("cells" : Str) = some (.ref c) := look_hit
theorem memF_no (c : Addr) {x : Str} (h1 : ¬ x = "cells") : (memF c).lookup x = none := by unfold memF; rw [look_miss h1]; rfl
def decW (w : Nat) : Option Instr := if w % 4 = 3 then Sg08.long w else Sg08.short w
structure MAt (C_2 C_1 C_0 : Addr) (H : Hp) (a : Ad) (m : Machine) : Prop where
  ob : H a.x = some (.ins C_2 a.dx (mF a m.pc m.why))
  me : H a.mem = some (.ins C_1 a.dm (memF a.cells))
  ce : H a.cells = some (.lst (cellsV m.mem))
  re : H a.regs = some (.lst (regsV m.regs))
  kn : ∃ kvs : List (Key × V), H a.known = some (.dK kvs) ∧ ∀ p ∈ kvs, ∃ (w : Nat) (q dx : Addr), (p.1 = .inl ((w : Nat) : Int) ∧ kvs.length ≤ 32768) ∧ p.2 = .ref q ∧ H q = some (.ins C_0 dx (insF (insO (decW w))))
  wh : Sg08.Whole m
def Frm (a : Ad) (H H' : Hp) : Prop := ∀ b o, H b = some o → b ≠ a.x → b ≠ a.cells → b ≠ a.regs → b ≠ a.known → H' b = some o
theorem Frm.refl (a : Ad) (H : Hp) : Frm a H H := fun _ _ e _ _ _ _ => e
theorem Frm.trans {a : Ad} {H H1 H2 : Hp} (h : Frm a H H1) (h' : Frm a H1 H2) : Frm a H H2 := fun b o e n1 n2 n3 n4 => h' b o (h b o e n1 n2 n3 n4) n1 n2 n3 n4
theorem Frm.same {a : Ad} {H H1 : Hp} (h : Same H H1) : Frm a H H1 := fun b o e _ _ _ _ => h b o e
structure MemC (K : PySem.W.Frag) (C : Addr) : Prop where
  cl : Cls K C
  n1 : NoAttr K C "cells"
structure MchC (K : PySem.W.Frag) (C : Addr) : Prop where
  cl : Cls K C
  n1 : NoAttr K C "memory"
  n2 : NoAttr K C "registers"
  n3 : NoAttr K C "pc"
  n4 : NoAttr K C "reason"
  n5 : NoAttr K C "known_words"
section
variable {CM CE CI : Addr} {H : Hp} {a : Ad} {m : Machine}
theorem lst_ne {xs ys : List V} (h : xs.length ≠ ys.length) : HO.lst xs ≠ HO.lst ys := fun e => by injection e with e; exact h (congrArg List.length e)
theorem MAt.xc (M : MAt CM CE CI H a m) : a.x ≠ a.cells := ne_of M.ob M.ce (by intro z; cases z)
theorem MAt.xr (M : MAt CM CE CI H a m) : a.x ≠ a.regs := ne_of M.ob M.re (by intro z; cases z)
theorem MAt.xk (M : MAt CM CE CI H a m) : a.x ≠ a.known := let ⟨_, e, _⟩ := M.kn; ne_of M.ob e (by intro z; cases z)
theorem mF_ne_memF (a : Ad) (pc why : Int) (c : Addr) : mF a pc why ≠ memF c := fun e => by
  have := congrArg List.length e
  simp [mF, memF] at this
theorem insF_ne_memF (i : Ins) (c : Addr) : insF i ≠ memF c := fun e => by
  have := congrArg List.length e
  simp [insF, memF] at this
theorem insF_ne_mF (i : Ins) (a : Ad) (pc why : Int) : insF i ≠ mF a pc why := fun e => by
  have := congrArg List.length e
  simp [insF, mF] at this
theorem MAt.xm (M : MAt CM CE CI H a m) : a.x ≠ a.mem := ne_of M.ob M.me (by intro z; injection z with _ _ z; exact mF_ne_memF _ _ _ _ z)
theorem MAt.mc (M : MAt CM CE CI H a m) : a.mem ≠ a.cells := ne_of M.me M.ce (by intro z; cases z)
theorem MAt.mr (M : MAt CM CE CI H a m) : a.mem ≠ a.regs := ne_of M.me M.re (by intro z; cases z)
theorem MAt.mkn (M : MAt CM CE CI H a m) : a.mem ≠ a.known := let ⟨_, e, _⟩ := M.kn; ne_of M.me e (by intro z; cases z)
theorem MAt.cr (M : MAt CM CE CI H a m) : a.cells ≠ a.regs := ne_of M.ce M.re (lst_ne (by rw [cellsV_len, regsV_len]; decide))
theorem MAt.ck (M : MAt CM CE CI H a m) : a.cells ≠ a.known := let ⟨_, e, _⟩ := M.kn; ne_of M.ce e (by intro z; cases z)
theorem MAt.rk (M : MAt CM CE CI H a m) : a.regs ≠ a.known := let ⟨_, e, _⟩ := M.kn; ne_of M.re e (by intro z; cases z)
theorem MAt.ni {p dx : Addr} {i : Ins} (M : MAt CM CE CI H a m) (h : H p = some (.ins CI dx (insF i))) : p ≠ a.x ∧ p ≠ a.mem ∧ p ≠ a.cells ∧ p ≠ a.regs ∧ p ≠ a.known := by
  obtain ⟨_, e, _⟩ := M.kn
  exact ⟨ne_of h M.ob (by intro z; injection z with _ _ z; exact insF_ne_mF _ _ _ _ z), ne_of h M.me (by intro z; injection z with _ _ z; exact insF_ne_memF _ _ z), ne_of h M.ce (by intro z; cases z), ne_of h M.re (by intro z; cases z), ne_of h e (by intro z; cases z)⟩
theorem MAt.same {H' : Hp} (M : MAt CM CE CI H a m) (s : Same H H') : MAt CM CE CI H' a m := by
  obtain ⟨kvs, e, f⟩ := M.kn
  exact ⟨s _ _ M.ob, s _ _ M.me, s _ _ M.ce, s _ _ M.re, ⟨kvs, s _ _ e, fun p hp => let ⟨w, q, dx, h1, h2, h3⟩ := f p hp; ⟨w, q, dx, h1, h2, s _ _ h3⟩⟩, M.wh⟩
theorem MAt.setPc (M : MAt CM CE CI H a m) {z : Nat} (hz : z < WORD) (he : z % 2 = 0) : MAt CM CE CI (upd H a.x (.ins CM a.dx (putF "pc" (.int z) (mF a m.pc m.why)))) a { m with pc := z } := by
  obtain ⟨kvs, e, f⟩ := M.kn
  refine ⟨by rw [upd_same, mF_setpc], by rw [upd_ne M.xm.symm]; exact M.me, by rw [upd_ne M.xc.symm]; exact M.ce, by rw [upd_ne M.xr.symm]; exact M.re, ⟨kvs, by rw [upd_ne M.xk.symm]; exact e, fun p hp => ?_⟩, ⟨M.wh.regs, hz, he⟩⟩
  obtain ⟨w, q, dx, h1, h2, h3⟩ := f p hp
  exact ⟨w, q, dx, h1, h2, by rw [upd_ne (M.ni h3).1]; exact h3⟩
theorem MAt.setWhy (M : MAt CM CE CI H a m) (z : Nat) : MAt CM CE CI (upd H a.x (.ins CM a.dx (putF "reason" (.int z) (mF a m.pc m.why)))) a { m with why := z } := by
  obtain ⟨kvs, e, f⟩ := M.kn
  refine ⟨by rw [upd_same, mF_setreason], by rw [upd_ne M.xm.symm]; exact M.me, by rw [upd_ne M.xc.symm]; exact M.ce, by rw [upd_ne M.xr.symm]; exact M.re, ⟨kvs, by rw [upd_ne M.xk.symm]; exact e, fun p hp => ?_⟩, ⟨M.wh.regs, M.wh.pc⟩⟩
  obtain ⟨w, q, dx, h1, h2, h3⟩ := f p hp
  exact ⟨w, q, dx, h1, h2, by rw [upd_ne (M.ni h3).1]; exact h3⟩
theorem MAt.setReg (M : MAt CM CE CI H a m) {r v : Nat} (h0 : r ≠ 0) (hr : r < 32) (hv : v < WORD) : MAt CM CE CI (upd H a.regs (.lst ((regsV m.regs).set r (.int ((v : Nat) : Int))))) a (Sg08.set m r v) := by
  obtain ⟨kvs, e, f⟩ := M.kn
  have hs : Sg08.set m r v = { m with regs := fun i => if i = r then v else m.regs i } := by unfold Sg08.set; rw [if_neg h0]
  have hw := whole_set (r := r) M.wh hv
  rw [hs] at hw ⊢
  refine ⟨by rw [upd_ne M.xr]; exact M.ob, by rw [upd_ne M.mr]; exact M.me, by rw [upd_ne M.cr]; exact M.ce, by rw [upd_same, regsV_set hr], ⟨kvs, by rw [upd_ne M.rk.symm]; exact e, fun p hp => ?_⟩, hw⟩
  obtain ⟨w, q, dx, h1, h2, h3⟩ := f p hp
  exact ⟨w, q, dx, h1, h2, by rw [upd_ne (M.ni h3).2.2.2.1]; exact h3⟩
theorem MAt.setMem {H' : Hp} (M : MAt CM CE CI H a m) {f : Nat → UInt8} (hc : H' a.cells = some (.lst (cellsV f))) (k : ∀ b o, H b = some o → b ≠ a.cells → H' b = some o) : MAt CM CE CI H' a { m with mem := f } := by
  obtain ⟨kvs, e, g⟩ := M.kn
  refine ⟨k _ _ M.ob M.xc, k _ _ M.me M.mc, hc, k _ _ M.re M.cr.symm, ⟨kvs, k _ _ e M.ck.symm, fun p hp => ?_⟩, ⟨M.wh.regs, M.wh.pc⟩⟩
  obtain ⟨w, q, dx, h1, h2, h3⟩ := g p hp
  exact ⟨w, q, dx, h1, h2, k _ _ h3 (M.ni h3).2.2.1⟩
end
end Sp8
end
section
namespace Sp8
open PySem PySem.Spec PyProof.Rows L2
open Sg08 (Alu WORD Instr Machine)
def lcScope (s : Stmt) : Scope := match defBody s with
  | [.Expr (.Call _ [_, .ListComp _ _ sc _] _ _) _] => sc
  | _ => { kind := .function, names := [], isGenerator := false, isCoroutine := false }
theorem for_enum {K : PySem.W.Frag} {a : Addr} {xs : List V} {g : TG} {tb : TS} {D : Ends} {σ : L2.St} {H : Hp} (Pv : Nat → L2.St → Hp → Prop) (h0 : Pv 0 σ H) (hl : ∀ i σ H, i ≤ xs.length → Pv i σ H → SqL K H a xs)
    (hs : ∀ i x σ H T, xs[i]? = some x → Pv i σ H → H T = none → g (.ref T) σ (upd H T (.tup [.int ((i : Nat) : Int), x])) fun σ2 H2 => tb { D with nx := Pv (i + 1), ct := Pv (i + 1), bk := D.nx } σ2 H2) (hd : ∀ σ H, Pv xs.length σ H → D.nx σ H) :
    ∃ W : Nat → Nat → L2.St → Hp → Prop, (∃ m, W 0 m σ H) ∧ ∀ i m σ H, W i m σ H →
      ((Ite K a).stop i H ∧ D.nx σ H) ∨ ((Ite K a).go i H ∧ ∃ N : L2.St → Hp → Prop, (∀ σ' H', N σ' H' → ∃ m', m' < m ∧ W (i + 1) m' σ' H') ∧ ∀ x H', (Ite K a).yld i H x H' → g x σ H' fun σ2 H2 => tb { D with nx := N, ct := N, bk := D.nx } σ2 H2) := by
  refine ⟨fun i m σ H => m = xs.length - i ∧ i ≤ xs.length ∧ Pv i σ H, ⟨xs.length, by simp, Nat.zero_le _, h0⟩, ?_⟩
  rintro i m σ H ⟨rfl, hi, p⟩
  have q := hl i σ H hi p
  by_cases hlt : i < xs.length
  · refine .inr ⟨⟨xs, xs[i], q, by simp [hlt]⟩, Pv (i + 1), fun σ' H' p' => ⟨xs.length - (i + 1), by omega, rfl, hlt, p'⟩, fun v H' y => ?_⟩
    obtain ⟨T, x, rfl, hT, rfl, y⟩ := y
    exact hs i x σ H T (y xs q) p hT
  · have e : i = xs.length := by omega
    subst e
    exact .inl ⟨⟨xs, q, Nat.le_refl _⟩, hd σ H p⟩
def spHolds : Sp := fun vs H Q _ => ∃ s p n, vs = [s, .int p, .int n] ∧ Q (.bl (Sg08.fits p n)) H
theorem spHolds_len {x y z : Str} : ∀ vs H Q E, spHolds vs H Q E → vs.length = [x, y, z].length := fun vs H Q E h => by obtain ⟨_, _, _, rfl, _⟩ := h; rfl
def spStoreRow (K : PySem.W.Frag) (C : Addr) : Sp := fun vs H Q _ => ∃ (s ds c r : Addr) (p : Nat) (cs ys : List V), vs = [.ref s, .int ((p : Nat) : Int), .ref r] ∧ H s = some (.ins C ds (memF c)) ∧ H c = some (.lst cs) ∧ SqL K H r ys ∧ r ≠ c ∧ p + ys.length ≤ cs.length ∧
  ∀ H' : Hp, H' c = some (.lst (wr cs p ys)) → (∀ b o, H b = some o → b ≠ c → H' b = some o) → Q .non H'
theorem spStoreRow_len {K : PySem.W.Frag} {C : Addr} {x y z : Str} : ∀ vs H Q E, spStoreRow K C vs H Q E → vs.length = [x, y, z].length := fun vs H Q E h => by obtain ⟨_, _, _, _, _, _, _, rfl, _⟩ := h; rfl
def spLoadRow (C : Addr) : Sp := fun vs H Q _ => ∃ (s ds c : Addr) (p n : Nat) (cs : List V), vs = [.ref s, .int ((p : Nat) : Int), .int ((n : Nat) : Int)] ∧ H s = some (.ins C ds (memF c)) ∧ H c = some (.lst cs) ∧ p + n ≤ cs.length ∧ ∀ q, H q = none → Q (.ref q) (upd H q (.lst ((cs.drop p).take n)))
theorem spLoadRow_len {C : Addr} {x y z : Str} : ∀ vs H Q E, spLoadRow C vs H Q E → vs.length = [x, y, z].length := fun vs H Q E h => by obtain ⟨_, _, _, _, _, _, rfl, _⟩ := h; rfl
def bytesV (v n : Nat) : List V := (List.range n).map fun i => V.int ((v / 256 ^ i % 256 : Nat) : Int)
def spStoreNumber (C : Addr) : Sp := fun vs H Q _ => ∃ (s ds c : Addr) (p n v : Nat) (cs : List V), vs = [.ref s, .int ((p : Nat) : Int), .int ((n : Nat) : Int), .int ((v : Nat) : Int)] ∧ H s = some (.ins C ds (memF c)) ∧ H c = some (.lst cs) ∧ p + n ≤ cs.length ∧ n ≤ 8 ∧
  ∀ H' : Hp, H' c = some (.lst (wr cs p (bytesV v n))) → (∀ b o, H b = some o → b ≠ c → H' b = some o) → Q .non H'
theorem spStoreNumber_len {C : Addr} {x y z u : Str} : ∀ vs H Q E, spStoreNumber C vs H Q E → vs.length = [x, y, z, u].length := fun vs H Q E h => by obtain ⟨_, _, _, _, _, _, _, rfl, _⟩ := h; rfl
def spLoadHalf (C : Addr) : Sp := fun vs H Q _ => ∃ (s ds c : Addr) (p : Nat) (m : Nat → UInt8), vs = [.ref s, .int ((p : Nat) : Int)] ∧ H s = some (.ins C ds (memF c)) ∧ H c = some (.lst (cellsV m)) ∧ p + 2 ≤ 65536 ∧ Q (.int ((Sg08.number m p 2 : Nat) : Int)) H
theorem spLoadHalf_len {C : Addr} {x y : Str} : ∀ vs H Q E, spLoadHalf C vs H Q E → vs.length = [x, y].length := fun vs H Q E h => by obtain ⟨_, _, _, _, _, rfl, _⟩ := h; rfl
def spLoadNumber (C : Addr) : Sp := fun vs H Q _ => ∃ (s ds c : Addr) (p n : Nat) (m : Nat → UInt8), vs = [.ref s, .int ((p : Nat) : Int), .int ((n : Nat) : Int)] ∧ H s = some (.ins C ds (memF c)) ∧ H c = some (.lst (cellsV m)) ∧ p + n ≤ 65536 ∧ n ≤ 8 ∧ Q (.int ((Sg08.number m p n : Nat) : Int)) H
theorem spLoadNumber_len {C : Addr} {x y z : Str} : ∀ vs H Q E, spLoadNumber C vs H Q E → vs.length = [x, y, z].length := fun vs H Q E h => by obtain ⟨_, _, _, _, _, _, rfl, _⟩ := h; rfl
def spMemInit (C : Addr) : Sp := fun vs H Q _ => ∃ p dx, vs = [.ref p] ∧ H p = some (.ins C dx []) ∧ ∀ (c : Addr) (H' : Hp), H c = none → H' p = some (.ins C dx (memF c)) → H' c = some (.lst (cellsV fun _ => 0)) → c ≠ p → (∀ b o, H b = some o → b ≠ p → H' b = some o) → Q .non H'
theorem spMemInit_len {C : Addr} {x : Str} : ∀ vs H Q E, spMemInit C vs H Q E → vs.length = [x].length := fun vs H Q E h => by obtain ⟨_, _, rfl, _⟩ := h; rfl
theorem zerosV : (List.replicate (65536 : Int).toNat [V.int 0]).flatten = cellsV fun _ => 0 := by
  apply List.ext_getElem?
  intro i
  have h : (List.replicate (65536 : Int).toNat [V.int 0]).flatten = List.replicate 65536 (V.int 0) := by
    rw [show (65536 : Int).toNat = 65536 from rfl]
    generalize (65536 : Nat) = k
    induction k with
    | zero => rfl
    | succ k ih => rw [List.replicate_succ, List.flatten_cons, ih, List.replicate_succ]; rfl
  rw [h, List.getElem?_replicate]
  by_cases hi : i < 65536
  · rw [if_pos hi, cellsV_get hi]; rfl
  · rw [if_neg hi, List.getElem?_eq_none (by rw [cellsV_len]; omega)]
theorem zerosR : (List.replicate (32 : Int).toNat [V.int 0]).flatten = regsV fun _ => 0 := by decide +kernel
theorem cut_eq {cs : List V} {p n : Nat} (h : p + n ≤ cs.length) : cutV cs (some ((p : Nat) : Int)) (some ((p : Int) + (n : Int))) = (cs.drop p).take n := by
  have e : ((p : Int) + (n : Int)) = ((p + n : Nat) : Int) := by omega
  unfold cutV
  rw [e, HT.sIx_nat, HT.sIx_nat, Nat.min_eq_left (by omega), Nat.min_eq_left (by omega), show p + n - p = n by omega]
theorem pow_256 (i : Nat) : 256 ^ i = 2 ^ (8 * i) := by rw [show (256 : Nat) = 2 ^ 8 from rfl, ← Nat.pow_mul]
theorem number_succ (m : Nat → UInt8) (a : Nat) (i : Nat) : Sg08.number m a (i + 1) = Sg08.number m a i + (m (a + i)).toNat * 256 ^ i := by
  have key : ∀ (l : List Nat) (x : Nat), l.foldr (fun j y => (m (a + j)).toNat + 256 * y) x = l.foldr (fun j y => (m (a + j)).toNat + 256 * y) 0 + 256 ^ l.length * x := by
    intro l x
    induction l with
    | nil => simp
    | cons j l ih =>
      rw [List.foldr_cons, List.foldr_cons, ih, List.length_cons, Nat.pow_succ]
      rw [Nat.mul_add, ← Nat.add_assoc, ← Nat.mul_assoc, Nat.mul_comm 256 (256 ^ l.length)]
  unfold Sg08.number
  rw [List.range_succ, List.foldr_append, key, List.length_range, List.foldr_cons, List.foldr_nil, Nat.mul_zero, Nat.add_zero, Nat.mul_comm]
theorem number_turn (m : Nat → UInt8) (a i : Nat) : Builtin.bitOr ((Sg08.number m a i : Nat) : Int) ((((m (a + i)).toNat : Nat) : Int) * 2 ^ (8 * ((i : Nat) : Int)).toNat) = ((Sg08.number m a (i + 1) : Nat) : Int) := by
  have e : (8 * ((i : Nat) : Int)).toNat = 8 * i := by omega
  rw [e, ← pow_cast, ← Int.natCast_mul, or_nat, number_succ]
  have h := number_lt m a i
  rw [pow_256] at h ⊢
  rw [or_add h]
theorem half_turn (m : Nat → UInt8) (a : Nat) : Builtin.bitOr (((m a).toNat : Nat) : Int) ((((m (a + 1)).toNat : Nat) : Int) * 2 ^ (8 : Int).toNat) = ((Sg08.number m a 2 : Nat) : Int) := by
  have h := number_turn m a 1
  rw [number_1] at h
  exact h
theorem byte_eq (v i : Nat) : Builtin.bitAnd ((v : Int) / 2 ^ (8 * ((0 : Int) + (i : Int))).toNat) 255 = ((v / 256 ^ i % 256 : Nat) : Int) := by
  have e : (8 * ((0 : Int) + (i : Int))).toNat = 8 * i := by omega
  rw [e, bitAnd_m8, ← pow_cast, pow_256]
  rfl
theorem at_nat' {xs : List V} {z : Int} {j : Nat} {v : V} (e : z = (j : Int)) (h : xs[j]? = some v) : atI xs z = some v := at_of e h
end Sp8
end
section
namespace Sp8
open PySem PySem.Spec PyProof.Rows L2
open Sg08 (Alu WORD Machine Instr)
section
variable {P : Program} {w : World} {K : PySem.W.Frag} {mg : Str → Option Value} {base : Heap}
theorem sc_1W : FnScope ["self"] ["self"] (defScope (inClass (top 170) 0)) := ⟨rfl, rfl, rfl, by decide +kernel, rfl, by decide +kernel, by decide +kernel⟩
theorem ok_1A {f_me C_1 : Addr} {t_b : Tok} (D : Def K "__init__" "Memory.__init__" (inClass (top 170) 0) ["self"] f_me) (m_F : mg "MEMORY_SIZE" = some (.int 65536 t_b)) (T : MemC K C_1) : Ok P w K mg base 1 f_me ["self"] (spMemInit C_1) := by
  refine D.ok sc_1W spMemInit_len fun cdv A outer s H vs Q E hr h => ?_
  refine ⟨_, (pss_one (ps_fld (pv 0) (pe_op op_rep (pe_lst (pa_cons pe_int pa_nil)) (pe_glob (v := .int 65536) rfl m_F ⟨_, rfl⟩)) rfl)), ?_⟩
  obtain ⟨p, dx, rfl, hp, k⟩ := h
  refine ⟨(by show 1 ≤ sizeLine; decide), fun l hl => ⟨l, 65536, [.int 0], rfl, rfl, upd_same, by decide, by decide, (by show 1 * 65536 ≤ sizeLine; decide), fun c hc => ?_⟩⟩
  have hlc : c ≠ l := fun e => by rw [e, upd_same] at hc; cases hc
  have hc' : H c = none := by rw [upd_ne hlc] at hc; exact hc
  have npl : p ≠ l := ne_of_none hp hl
  have npc : p ≠ c := ne_of_none hp hc'
  refine ⟨_, rfl, p, _, dx, [], rfl, (by rw [upd_ne npc, upd_ne npl]; exact hp), T.cl, T.n1, (by show 0 < 1000; decide), ?_⟩
  refine k c _ hc' upd_same (by rw [upd_ne npc.symm, upd_same, zerosV]) npc.symm fun b o e hb => ?_
  rw [upd_ne hb, upd_ne (ne_of_none e hc'), upd_ne (ne_of_none e hl)]
  exact e
theorem sc_1X : FnScope ["self", "place", "n"] ["self", "place", "n"] (defScope (inClass (top 170) 1)) := ⟨rfl, rfl, rfl, by decide +kernel, rfl, by decide +kernel, by decide +kernel⟩
theorem ok_1B {f_me : Addr} {t_b : Tok} (D : Def K "holds" "Memory.holds" (inClass (top 170) 1) ["self", "place", "n"] f_me) (m_F : mg "MEMORY_SIZE" = some (.int 65536 t_b)) : Ok P w K mg base 1 f_me ["self", "place", "n"] spHolds := by
  refine D.ok sc_1X spHolds_len fun cdv A outer s H vs Q E hr h => ?_
  refine ⟨_, (pss_one (ps_ret (pe_and (pe_cmpR op_ge (pv 1) pe_int (nomark _)) (pe_and (pe_cmpR op_ge (pv 2) pe_int (nomark _)) (pe_one (pe_cmpR op_le (pe_op op_add (pv 1) (pv 2)) (pe_glob (v := .int 65536) rfl m_F ⟨_, rfl⟩) (nomark _))))))), ?_⟩
  obtain ⟨s0, p, n, rfl, q⟩ := h
  refine ⟨_, rfl, _, _, rfl, rfl, _, rfl, ?_⟩
  refine ite2 (fun e1 => ?_) fun e1 => ?_
  · refine ⟨_, rfl, _, _, rfl, rfl, _, rfl, ?_⟩
    refine ite2 (fun e2 => ?_) fun e2 => ?_
    · exact ⟨_, rfl, _, rfl, _, _, rfl, rfl, _, _, rfl, rfl, qe (congrArg V.bl (by unfold Sg08.fits; rw [e1, e2]; rfl)) q⟩
    · exact qe (congrArg V.bl (by unfold Sg08.fits; rw [e1, Bool.eq_false_iff.mpr e2]; rfl)) q
  · exact qe (congrArg V.bl (by unfold Sg08.fits; rw [Bool.eq_false_iff.mpr e1]; rfl)) q
theorem sc_7 : FnScope ["self", "place", "row", "offset", "number"] ["self", "place", "row"] (defScope (inClass (top 170) 2)) := ⟨rfl, rfl, rfl, by decide +kernel, rfl, by decide +kernel, by decide +kernel⟩
theorem ok_1C {f_me C_1 : Addr} (D : Def K "store_row" "Memory.store_row" (inClass (top 170) 2) ["self", "place", "row"] f_me) (n_3 : mg "enumerate" = none) (T : MemC K C_1) : Ok P w K mg base 1 f_me ["self", "place", "row"] (spStoreRow K C_1) := by
  refine D.ok sc_7 spStoreRow_len fun cdv A outer s H vs Q E hr h => ?_
  refine ⟨_, (pss_one (ps_for PassesOwn.never rfl (pi_enum rfl n_3 (pa_cons (pv 2) pa_nil)) (pg_tup rfl (pgs_cons (pg_name (i := 3) sc_7.nd rfl (Or.inl rfl)) (pgs_cons (pg_name (i := 4) sc_7.nd rfl (Or.inl rfl)) pgs_nil))) (pss_one (ps_asg (pv 4) (pg_sub (pe_fld (pv 0) rfl) (pe_op op_add (pv 1) (pv 3)) set_list))))), ?_⟩
  obtain ⟨s0, ds, c, r, p, cs, ys, rfl, hs, hc, hr', nrc, hl, k⟩ := h
  have nsc : s0 ≠ c := ne_of hs hc (by intro z; cases z)
  have keepS : ∀ H2 : Hp, (∀ b o, H b = some o → b ≠ c → H2 b = some o) → SqL K H2 r ys := fun H2 kp => by
    rcases hr' with (z | ⟨o, z⟩) | z
    · exact .inl (.inl (kp _ _ z nrc))
    · exact .inl (.inr ⟨o, kp _ _ z nrc⟩)
    · exact .inr z
  refine ⟨_, rfl, r, ys, rfl, hr', for_enum (K := K) (a := r) (xs := ys) (fun i σ H2 => ∃ v3 v4 : Option V, σ = [some (.ref s0), some (.int ((p : Nat) : Int)), some (.ref r), v3, v4] ∧ H2 c = some (.lst (wr cs p (ys.take i))) ∧ ∀ b o, H b = some o → b ≠ c → H2 b = some o)
    ⟨none, none, rfl, hc, fun b o e _ => e⟩ (fun i σ H2 _ ⟨_, _, _, _, kp⟩ => keepS H2 kp) ?_ ?_⟩
  · rintro i x σ H2 T0 hi ⟨v3, v4, rfl, hc2, kp⟩ hT
    have hlt : i < ys.length := (List.getElem?_eq_some_iff.mp hi).1
    have nct : c ≠ T0 := ne_of_none hc2 hT
    have hs2 := kp _ _ hs nsc
    have nst : s0 ≠ T0 := ne_of_none hs2 hT
    refine ⟨T0, _, rfl, SqT.of upd_same, rfl, _, _, rfl, _, _, rfl, rfl, ?_⟩
    refine ⟨_, rfl, _, rfl, s0, _, ds, _, _, rfl, (by rw [upd_ne nst]; exact hs2), T.cl, T.n1, memF_cells _, _, rfl, _, rfl, _, _, rfl, rfl, c, _, _, p + i, rfl, rfl, (by rw [upd_ne nct]; exact hc2), ?_, ?_⟩
    · rw [show ((p : Nat) : Int) + ((i : Nat) : Int) = ((p + i : Nat) : Int) by omega]
      exact ixN_nat (by rw [wr_len]; omega)
    · refine ⟨_, _, rfl, ?_, fun b o e hb => ?_⟩
      · rw [upd_same, take_snoc hi, wr_snoc, List.length_take, Nat.min_eq_left (Nat.le_of_lt hlt)]
      · rw [upd_ne hb, upd_ne (ne_of_none (kp b o e hb) hT)]
        exact kp b o e hb
  · rintro σ H2 ⟨v3, v4, rfl, hc2, kp⟩
    refine k H2 ?_ kp
    rw [hc2, List.take_of_length_le (Nat.le_refl _)]
theorem sc_1Y : FnScope ["self", "place", "n"] ["self", "place", "n"] (defScope (inClass (top 170) 3)) := ⟨rfl, rfl, rfl, by decide +kernel, rfl, by decide +kernel, by decide +kernel⟩
theorem ok_1D {f_me C_1 : Addr} (D : Def K "load_row" "Memory.load_row" (inClass (top 170) 3) ["self", "place", "n"] f_me)  (T : MemC K C_1) : Ok P w K mg base 1 f_me ["self", "place", "n"] (spLoadRow C_1) := by
  refine D.ok sc_1Y spLoadRow_len fun cdv A outer s H vs Q E hr h => ?_
  refine ⟨_, (pss_one (ps_ret (pe_slice sl_list (pe_fld (pv 0) rfl) (po_some (pv 1)) (po_some (pe_op op_add (pv 1) (pv 2)))))), ?_⟩
  obtain ⟨s0, ds, c, p, n, cs, rfl, hs, hc, hl, k⟩ := h
  refine ⟨_, rfl, s0, _, ds, _, _, rfl, hs, T.cl, T.n1, memF_cells _, _, rfl, _, rfl, _, rfl, _, rfl, _, _, rfl, rfl, _, rfl, c, _, rfl, SqL.of hc, fun q hq => ?_⟩
  rw [cut_eq hl]
  exact k q hq
theorem sc_8 : FnScope ["self", "place", "n", "number", "offset"] ["self", "place", "n", "number"] (defScope (inClass (top 170) 4)) := ⟨rfl, rfl, rfl, by decide +kernel, rfl, by decide +kernel, by decide +kernel⟩
theorem ok_1E {f_me C_1 : Addr} (D : Def K "store_number" "Memory.store_number" (inClass (top 170) 4) ["self", "place", "n", "number"] f_me) (c_2 : Cls K C_1) (G_z : OkM P w K mg base 1 C_1 "store_row" ["self", "place", "row"] (spStoreRow K C_1)) (n_1 : mg "range" = none) : Ok P w K mg base 2 f_me ["self", "place", "n", "number"] (spStoreNumber C_1) := by
  refine D.ok sc_8 spStoreNumber_len fun cdv A outer s H vs Q E hr h => ?_
  refine ⟨_, (pss_one (ps_expr (pe_m (pv 0) c_2 G_z hr (pa_cons (pv 1) (pa_cons (pe_lc rfl sc_8.nd (pi_range1 rfl n_1 (pa_cons (pv 2) pa_nil)) (own := [("offset", 4)]) (blkOk_by (N := ["self", "place", "n", "number", "offset"]) (sc := defScope (inClass (top 170) 4)) (scope := lcScope (inClass (top 170) 4)) (own := [("offset", 4)]) (by decide +kernel)) (fun _ _ _ _ _ => pg_name (i := 4) sc_8.nd rfl (Or.inl rfl)) (fun _ _ _ _ _ => pts_nil) (fun _ _ _ _ _ => (pe_op op_and (pe_op op_shr (pv 3) (pe_op op_mul pe_int (pv 4))) pe_int))) pa_nil))))), ?_⟩
  obtain ⟨s0, ds, c, p, n, v, cs, rfl, hs, hc, hl, h8, k⟩ := h
  refine ⟨_, rfl, s0, ds, _, rfl, hs, memF_no _ (by decide +kernel), _, rfl, _, rfl, _, rfl, by omega, by omega, fun D0 hD => ?_⟩
  have ncD : c ≠ D0 := ne_of_none hc hD
  refine lc_range (lo := 0) (n := ((n : Nat) : Int).toNat) (fun i H2 => H2 D0 = some (.lst (bytesV v i)) ∧ ∀ b o, H b = some o → H2 b = some o) ⟨upd_same, fun b o e => by rw [upd_ne (ne_of_none e hD)]; exact e⟩ ?_ ?_
  · rintro i H2 hi ⟨hD2, kp⟩
    refine ⟨rfl, ?_⟩
    refine ⟨_, rfl, _, rfl, _, _, rfl, rfl, .inl ⟨by decide, by decide⟩, _, _, rfl, rfl, (show (0 : Int) ≤ 8 * ((0 : Int) + (i : Int)) by omega), _, _, rfl, rfl, _, hD2, ?_, ?_⟩
    · unfold bytesV; rw [List.length_map, List.length_range]
      rw [Int.toNat_natCast] at hi
      exact Nat.lt_of_lt_of_le (show i < 8 by omega) (by decide)
    · refine ⟨?_, fun b o e => by rw [upd_ne (ne_of_none e hD)]; exact kp b o e⟩
      rw [upd_same]
      refine congrArg (fun z => some (HO.lst z)) ?_
      show bytesV v i ++ [V.int (Builtin.bitAnd ((v : Int) / 2 ^ (8 * ((0 : Int) + (i : Int))).toNat) 255)] = _
      rw [byte_eq]
      unfold bytesV
      rw [List.range_succ, List.map_append]; rfl
  · rintro H2 ⟨hD2, kp⟩
    rw [Int.toNat_natCast] at hD2
    refine ⟨s0, ds, c, D0, p, cs, _, rfl, kp _ _ hs, kp _ _ hc, SqL.of hD2, ncD.symm, by unfold bytesV; rw [List.length_map, List.length_range]; exact hl, fun H3 h3 k3 => ?_⟩
    exact k H3 h3 fun b o e hb => k3 b o (kp b o e) hb
theorem sc_1Z : FnScope ["self", "place"] ["self", "place"] (defScope (inClass (top 170) 5)) := ⟨rfl, rfl, rfl, by decide +kernel, rfl, by decide +kernel, by decide +kernel⟩
theorem ok_1F {f_me C_1 : Addr} (D : Def K "load_half" "Memory.load_half" (inClass (top 170) 5) ["self", "place"] f_me)  (T : MemC K C_1) : Ok P w K mg base 1 f_me ["self", "place"] (spLoadHalf C_1) := by
  refine D.ok sc_1Z spLoadHalf_len fun cdv A outer s H vs Q E hr h => ?_
  refine ⟨_, (pss_one (ps_ret (pe_op op_or (pe_ix ix_list (pe_fld (pv 0) rfl) (pv 1) (fun _ _ => rfl)) (pe_op op_shl (pe_ix ix_list (pe_fld (pv 0) rfl) (pe_op op_add (pv 1) pe_int) (fun _ _ => rfl)) pe_int)))), ?_⟩
  obtain ⟨s0, ds, c, p, m, rfl, hs, hc, hl, q⟩ := h
  refine ⟨_, rfl, s0, _, ds, _, _, rfl, hs, T.cl, T.n1, memF_cells _, _, rfl, c, _, _, _, rfl, rfl, SqL.of hc, atI_nat (cellsV_get (by omega)), _, rfl, s0, _, ds, _, _, rfl, hs, T.cl, T.n1, memF_cells _, _, rfl, _, _, rfl, rfl, c, _, _, _, rfl, rfl, SqL.of hc, at_of (j := p + 1) (by omega) (cellsV_get (by omega)), _, _, rfl, rfl, ⟨by decide, by decide, by have := (m (p + 1)).toNat_lt; omega⟩, _, _, rfl, rfl, qe (congrArg V.int (half_turn m p)) q⟩
theorem sc_3 : FnScope ["self", "place", "n", "number", "offset"] ["self", "place", "n"] (defScope (inClass (top 170) 6)) := ⟨rfl, rfl, rfl, by decide +kernel, rfl, by decide +kernel, by decide +kernel⟩
theorem ok_1G {f_me C_1 : Addr} (D : Def K "load_number" "Memory.load_number" (inClass (top 170) 6) ["self", "place", "n"] f_me) (n_1 : mg "range" = none) (T : MemC K C_1) : Ok P w K mg base 1 f_me ["self", "place", "n"] (spLoadNumber C_1) := by
  refine D.ok sc_3 spLoadNumber_len fun cdv A outer s H vs Q E hr h => ?_
  refine ⟨_, (pss_cons (ps_set (i := 3) sc_3.nd rfl (Or.inl rfl) pe_int) (pss_cons (ps_for PassesOwn.never rfl (pi_range1 rfl n_1 (pa_cons (pv 2) pa_nil)) (pg_name (i := 4) sc_3.nd rfl (Or.inl rfl)) (pss_one (ps_aug (i := 3) sc_3.nd rfl (Or.inl rfl) (pe_op op_shl (pe_ix ix_list (pe_fld (pv 0) rfl) (pe_op op_add (pv 1) (pv 4)) (fun _ _ => rfl)) (pe_op op_mul pe_int (pv 4))) iop_or))) (pss_one (ps_ret (pv 3))))), ?_⟩
  obtain ⟨s0, ds, c, p, n, m, rfl, hs, hc, hl, h8, q⟩ := h
  refine ⟨_, rfl, _, rfl, by omega, by omega, for_range (lo := 0) (n := ((n : Nat) : Int).toNat) (fun i σ H2 => ∃ v : Option V, σ = [some (.ref s0), some (.int ((p : Nat) : Int)), some (.int ((n : Nat) : Int)), some (.int ((Sg08.number m p i : Nat) : Int)), v] ∧ H2 = H) ⟨none, rfl, rfl⟩ ?_ ?_⟩
  · rintro i σ H2 hi ⟨v, rfl, rfl⟩
    rw [Int.toNat_natCast] at hi
    refine ⟨_, rfl, _, rfl, s0, _, ds, _, _, rfl, hs, T.cl, T.n1, memF_cells _, _, rfl, _, rfl, _, _, rfl, rfl, c, _, _, _, rfl, rfl, SqL.of hc, at_of (j := p + i) (by omega) (cellsV_get (by omega)), _, rfl, _, _, rfl, rfl, .inl ⟨by decide, by decide⟩, _, _, rfl, rfl, ⟨by omega, by omega, by have := (m (p + i)).toNat_lt; omega⟩, _, _, rfl, rfl, ?_⟩
    exact ⟨some _, by rw [← number_turn, show (0 : Int) + (i : Int) = (i : Int) by omega]; rfl, rfl⟩
  · rintro σ H2 ⟨v, rfl, rfl⟩
    rw [Int.toNat_natCast]
    exact ⟨_, rfl, q⟩
end
end Sp8
end
section
namespace Sp8
open PySem PySem.Spec PyProof.Rows L2
open Sg08 (Alu WORD Instr Machine)
def exec (m : Machine) (i : Instr) (n : Nat) : Except Nat Machine :=
  let go : Machine := { m with pc := (m.pc + n) % WORD }
  let to (z : Int) : Nat := Sg08.wrap ((m.pc : Int) + z)
  match i with
  | .imm o rd rs z => .ok (Sg08.set go rd (o.of (m.regs rs) (Sg08.wrap z)))
  | .reg o rd a b => .ok (Sg08.set go rd (o.of (m.regs a) (m.regs b)))
  | .lui rd z => .ok (Sg08.set go rd (Sg08.wrap z))
  | .auipc rd z => .ok (Sg08.set go rd (to z))
  | .jal rd z => .ok { Sg08.set go rd go.pc with pc := to z }
  | .jalr rd rs z => .ok { Sg08.set go rd go.pc with pc := Sg08.wrap ((m.regs rs : Int) + z) / 2 * 2 }
  | .branch k a b z => .ok (if Sg08.taken k (m.regs a) (m.regs b) = true then { m with pc := to z } else go)
  | .load k rd rs z => let a := Sg08.wrap ((m.regs rs : Int) + z)
    if Sg08.there a (Sg08.sizeOf k) = true then .ok (Sg08.set go rd (Sg08.loaded k (Sg08.number m.mem a (Sg08.sizeOf k)))) else .error 4
  | .store k rs b z => let a := Sg08.wrap ((m.regs rs : Int) + z)
    if Sg08.there a (Sg08.sizeOf k) = true then .ok (Sg08.stored go a (Sg08.sizeOf k) (m.regs b)) else .error 4
  | .fence => .ok go
  | .ecall => .error 1
  | .ebreak => .error 2
theorem step_exec (m : Machine) : Sg08.step m = match Sg08.fetch m with | .error e => .error e | .ok (i, n) => exec m i n := by
  unfold Sg08.step
  cases Sg08.fetch m with
  | error e => rfl
  | ok x => obtain ⟨i, n⟩ := x; cases i <;> rfl
def regsIn : Instr → Prop
  | .imm _ rd rs _ => rd < 32 ∧ rs < 32
  | .reg _ rd a b => rd < 32 ∧ a < 32 ∧ b < 32
  | .lui rd _ => rd < 32
  | .auipc rd _ => rd < 32
  | .jal rd _ => rd < 32
  | .jalr rd rs _ => rd < 32 ∧ rs < 32
  | .branch k a b _ => (k = 0 ∨ k = 1 ∨ k = 4 ∨ k = 5 ∨ k = 6 ∨ k = 7) ∧ a < 32 ∧ b < 32
  | .load k rd rs _ => k < 7 ∧ rd < 32 ∧ rs < 32
  | .store k rs b _ => k < 4 ∧ rs < 32 ∧ b < 32
  | _ => True
theorem near_lt (w lo : Nat) : Sg08.near w lo < 32 := by
  unfold Sg08.near Sg08.bits
  have := md_lt (w / 2 ^ lo) (lo + 2 + 1 - lo)
  rw [show lo + 2 + 1 - lo = 3 by omega] at this ⊢
  omega
theorem regs_long {w : Nat} {i : Instr} (h : Sg08.long w = some i) : regsIn i := by
  unfold Sg08.long at h
  have b1 : Sg08.bits w 11 7 < 32 := bits_lt w 11 7
  have b2 : Sg08.bits w 19 15 < 32 := bits_lt w 19 15
  have b3 : Sg08.bits w 24 20 < 32 := bits_lt w 24 20
  have b4 : Sg08.bits w 14 12 < 8 := bits_lt w 14 12
  generalize Sg08.immJ w = zj at h
  generalize Sg08.immB w = zb at h
  generalize Sg08.immI w = zi at h
  generalize Sg08.immS w = zs at h
  generalize Sg08.immU w = zu at h
  generalize Sg08.bits w 6 0 = op at h
  generalize Sg08.bits w 11 7 = rd at h b1
  generalize Sg08.bits w 14 12 = f3 at h b4
  generalize Sg08.bits w 19 15 = rs at h b2
  generalize Sg08.bits w 24 20 = r2 at h b3
  generalize Sg08.bits w 31 25 = f7 at h
  generalize Sg08.bits w 31 26 = f6 at h
  generalize Sg08.bits w 25 20 = sh at h
  simp only at h
  repeat' split at h
  all_goals first
    | (cases h; done)
    | (cases h; exact True.intro)
    | (cases h; exact b1)
    | (cases h; exact ⟨b1, b2⟩)
    | (cases h; exact ⟨b1, b2, b3⟩)
    | (cases h; exact ⟨by omega, b2, b3⟩)
    | (cases h; exact ⟨by omega, b1, b2⟩)
    | (simp only [Option.map_eq_some_iff] at h; obtain ⟨_, _, rfl⟩ := h; exact ⟨b1, b2, b3⟩)
theorem regs_short {w : Nat} {i : Instr} (h : Sg08.short w = some i) : regsIn i := by
  unfold Sg08.short at h
  have b1 : Sg08.bits w 11 7 < 32 := bits_lt w 11 7
  have b2 : Sg08.bits w 6 2 < 32 := bits_lt w 6 2
  have n7 := near_lt w 7
  have n2 := near_lt w 2
  generalize Sg08.immCJ w = zj at h
  generalize Sg08.immCB w = zb at h
  generalize Sg08.near w 7 = k7 at h n7
  generalize Sg08.near w 2 = k2 at h n2
  generalize Sg08.bits w 11 7 = rd at h b1
  generalize Sg08.bits w 6 2 = r2 at h b2
  generalize Sg08.bits w 1 0 = q at h
  generalize Sg08.bits w 15 13 = f at h
  generalize Sg08.bits w 11 10 = g at h
  generalize Sg08.bits w 12 12 = g2 at h
  generalize Sg08.bits w 6 5 = g3 at h
  simp only at h
  repeat' split at h
  all_goals first
    | (cases h; done)
    | (cases h; exact True.intro)
    | (cases h; exact b1)
    | (cases h; exact ⟨by omega, by omega⟩)
    | (cases h; exact ⟨by omega, by omega, by omega⟩)
    | (cases h; exact (by decide : (0 : Nat) < 32))
def spCompute : Sp := fun vs H Q _ => ∃ (o : Alu) (a b : Nat), vs = [.str (aluN o), .int ((a : Nat) : Int), .int ((b : Nat) : Int)] ∧ a < WORD ∧ b < WORD ∧ Q (.int ((o.of a b : Nat) : Int)) H
theorem spCompute_len {x y z : Str} : ∀ vs H Q E, spCompute vs H Q E → vs.length = [x, y, z].length := fun vs H Q E h => by obtain ⟨_, _, _, rfl, _⟩ := h; rfl
def spBranch : Sp := fun vs H Q _ => ∃ k a b : Nat, vs = [.str (brN k), .int ((a : Nat) : Int), .int ((b : Nat) : Int)] ∧ (k = 0 ∨ k = 1 ∨ k = 4 ∨ k = 5 ∨ k = 6 ∨ k = 7) ∧ a < WORD ∧ b < WORD ∧ Q (.bl (Sg08.taken k a b)) H
theorem spBranch_len {x y z : Str} : ∀ vs H Q E, spBranch vs H Q E → vs.length = [x, y, z].length := fun vs H Q E h => by obtain ⟨_, _, _, rfl, _⟩ := h; rfl
theorem spRem_alu : ∀ vs H Q E, spAlu .remu vs H Q E → spRem vs H Q E := fun vs H Q E h => by
  obtain ⟨a, b, rfl, ha, hb, q⟩ := h
  exact ⟨a, b, rfl, ⟨bN ha, bN hb⟩, qe (congrArg V.int z_remainder) q⟩
theorem dec_nat (a b : Nat) : decide (V.int (a : Int) = V.int (b : Int)) = (a == b) := by
  by_cases h : a = b
  · subst h; simp
  · rw [decide_eq_false (fun e => h (by have := V.int.inj e; omega))]; simp [h]
theorem snoe {a b : Str} (h : ¬ a = b) (e : decide (V.str a = V.str b) = true) : False := h (V.str.inj (of_decide_eq_true e))
def spWrite (CM CE CI : Addr) : Sp := fun vs H Q _ => ∃ (a : Ad) (m : Machine) (r v : Nat), vs = [.ref a.x, .int ((r : Nat) : Int), .int ((v : Nat) : Int)] ∧ MAt CM CE CI H a m ∧ r < 32 ∧ v < WORD ∧ ∀ H', MAt CM CE CI H' a (Sg08.set m r v) → Frm a H H' → Q .non H'
theorem spWrite_len {CM CE CI : Addr} {x y z : Str} : ∀ vs H Q E, spWrite CM CE CI vs H Q E → vs.length = [x, y, z].length := fun vs H Q E h => by obtain ⟨_, _, _, _, rfl, _⟩ := h; rfl
structure DoPre (CM CE CI : Addr) (H : Hp) (a : Ad) (m : Machine) (p dx : Addr) (i : Instr) (n : Nat) : Prop where
  M : MAt CM CE CI H a m
  hp : H p = some (.ins CI dx (insF (insI i)))
  hn : n = 2 ∨ n = 4
  hr : regsIn i
  he : evenI i
def DoQ (CM CE CI : Addr) (H : Hp) (Q : VK) (a : Ad) (m : Machine) (i : Instr) (n : Nat) : Prop :=
  (∀ H' m', exec m i n = .ok m' → MAt CM CE CI H' a m' → Frm a H H' → Q (.int 0) H') ∧ ∀ e : Nat, exec m i n = .error e → Q (.int ((e : Nat) : Int)) H
def kindI : Instr → Nat
  | .imm .. => 1
  | .lui .. => 1
  | .reg .. => 0
  | .auipc .. => 2
  | .load .. => 3
  | .store .. => 4
  | .branch .. => 5
  | .jal .. => 6
  | .jalr .. => 7
  | .fence => 8
  | .ecall => 9
  | .ebreak => 9
def spDo (CM CE CI : Addr) (kd : Nat) : Sp := fun vs H Q _ => ∃ (a : Ad) (m : Machine) (p dx : Addr) (i : Instr) (n : Nat), vs = [.ref a.x, .ref p, .int (((m.pc + n) % WORD : Nat) : Int)] ∧ DoPre CM CE CI H a m p dx i n ∧ kindI i = kd ∧ DoQ CM CE CI H Q a m i n
theorem spDo_len {CM CE CI : Addr} {kd : Nat} {x y z : Str} : ∀ vs H Q E, spDo CM CE CI kd vs H Q E → vs.length = [x, y, z].length := fun vs H Q E h => by obtain ⟨_, _, _, _, _, _, rfl, _⟩ := h; rfl
section
variable {CM CE CI : Addr} {H H' : Hp} {a : Ad} {m : Machine} {p dx : Addr} {i : Instr} {n : Nat}
theorem MAt.reg_lt (M : MAt CM CE CI H a m) (r : Nat) : m.regs r < WORD := M.wh.regs.2 r
theorem go_even (M : MAt CM CE CI H a m) (hn : n = 2 ∨ n = 4) : (m.pc + n) % WORD < WORD ∧ (m.pc + n) % WORD % 2 = 0 := by
  have h := M.wh.pc
  rw [WORD_eq] at h ⊢
  omega
theorem Frm.ins {j : Ins} (M : MAt CM CE CI H a m) (f : Frm a H H') (h : H p = some (.ins CI dx (insF j))) : H' p = some (.ins CI dx (insF j)) := by
  obtain ⟨h1, _, h2, h3, h4⟩ := M.ni h
  exact f p _ h h1 h2 h3 h4
theorem Frm.updX (a : Ad) (H : Hp) (o : HO) : Frm a H (upd H a.x o) := fun b u e h1 _ _ _ => by rw [upd_ne h1]; exact e
theorem mF_len (a : Ad) (pc why : Int) : (mF a pc why).length < 1000 := by show 5 < 1000; decide
end
theorem reason_no (a : Ad) (pc why : Int) : (mF a pc why).lookup ("write_register" : Str) = none := mF_no _ _ _ (by decide +kernel) (by decide +kernel) (by decide +kernel) (by decide +kernel) (by decide +kernel)
theorem set_pc_comm (m : Machine) (r v g : Nat) : { Sg08.set m r v with pc := g } = Sg08.set { m with pc := g } r v := by unfold Sg08.set; split <;> rfl
theorem set_go {CM CE CI : Addr} {H1 : Hp} {a : Ad} {m : Machine} {rd v g : Nat} (M1 : MAt CM CE CI H1 a (Sg08.set m rd v)) (h1 : g < WORD) (h2 : g % 2 = 0) :
    MAt CM CE CI (upd H1 a.x (.ins CM a.dx (putF "pc" (.int ((g : Nat) : Int)) (mF a (Sg08.set m rd v).pc (Sg08.set m rd v).why)))) a (Sg08.set { m with pc := g } rd v) := by
  have h := M1.setPc h1 h2
  have e := set_pc_comm m rd v g
  exact e ▸ h
theorem wrap_add (x : Nat) (z : Int) : wrapZ ((x : Int) + ((Sg08.wrap z : Nat) : Int)) = ((Sg08.wrap ((x : Int) + z) : Nat) : Int) := by
  rw [wrapZ_wrap]
  have h1 := wrap_cast z
  have h2 := wrap_cast ((x : Int) + z)
  have h3 := wrap_cast ((x : Int) + ((Sg08.wrap z : Nat) : Int))
  omega
theorem add_zero_reg {x v : Nat} (h : x = 0) (hv : v < WORD) : Alu.of .add x v = v := by
  subst h; show (0 + v) % WORD = v; rw [Nat.zero_add]; exact Nat.mod_eq_of_lt hv
def spAddr (CM CE CI : Addr) : Sp := fun vs H Q _ => ∃ (a : Ad) (m : Machine) (p dx : Addr) (j : Ins) (r : Nat) (z : Int), vs = [.ref a.x, .ref p] ∧ MAt CM CE CI H a m ∧ H p = some (.ins CI dx (insF j)) ∧ j.first = ((r : Nat) : Int) ∧ j.imm = ((Sg08.wrap z : Nat) : Int) ∧ r < 32 ∧
  Q (.int ((Sg08.wrap ((m.regs r : Int) + z) : Nat) : Int)) H
theorem spAddr_len {CM CE CI : Addr} {x y : Str} : ∀ vs H Q E, spAddr CM CE CI vs H Q E → vs.length = [x, y].length := fun vs H Q E h => by obtain ⟨_, _, _, _, _, _, _, rfl, _⟩ := h; rfl
theorem holds_no (c : Addr) : (memF c).lookup ("holds" : Str) = none := memF_no _ (by decide +kernel)
theorem ln_no (c : Addr) : (memF c).lookup ("load_number" : Str) = none := memF_no _ (by decide +kernel)
theorem lh_no (c : Addr) : (memF c).lookup ("load_half" : Str) = none := memF_no _ (by decide +kernel)
theorem sn_no (c : Addr) : (memF c).lookup ("store_number" : Str) = none := memF_no _ (by decide +kernel)
theorem sz_tab : ∀ k < 7, valV kv_0 (.inr (ldN k)) = some (.int ((Sg08.sizeOf k : Nat) : Int)) := by decide +kernel
theorem szs_tab : ∀ k < 4, valV kv_0 (.inr (stN k)) = some (.int ((Sg08.sizeOf k : Nat) : Int)) := by decide +kernel
theorem sg_tab : ∀ k < 7, inV (.str (ldN k)) [.str "lb", .str "lh", .str "lw"] = decide (k < 3) := by decide +kernel
theorem fits_there (A k : Nat) : Sg08.fits ((A : Nat) : Int) ((Sg08.sizeOf k : Nat) : Int) = Sg08.there A (Sg08.sizeOf k) := by
  unfold Sg08.fits Sg08.there Sg08.SIZE
  rw [decide_eq_true (show (0 : Int) ≤ (A : Int) by omega), decide_eq_true (show (0 : Int) ≤ ((Sg08.sizeOf k : Nat) : Int) by omega), Bool.true_and, Bool.true_and]
  exact decide_eq_decide.mpr (by omega)
theorem load_val (k n : Nat) (hk : k < 7) (hn : n < 256 ^ Sg08.sizeOf k) : (if k < 3 then extendZ ((n : Nat) : Int) (8 * ((Sg08.sizeOf k : Nat) : Int)) else ((n : Nat) : Int)) = ((Sg08.loaded k n : Nat) : Int) := by
  rcases (show k = 0 ∨ k = 1 ∨ k = 2 ∨ k = 3 ∨ k = 4 ∨ k = 5 ∨ k = 6 by omega) with rfl | rfl | rfl | rfl | rfl | rfl | rfl
  · exact extendZ_nat n 7
  · exact extendZ_nat n 15
  · exact extendZ_nat n 31
  · show ((n : Nat) : Int) = ((Sg08.wrap (Sg08.signed 64 n) : Nat) : Int)
    have hn : n < 18446744073709551616 := hn
    have h := wrap_cast (Sg08.signed 64 n)
    have b := s64_bounds (n := n)
    unfold Sg08.s64 at b
    have e : Sg08.signed 64 n = (n : Int) ∨ Sg08.signed 64 n = (n : Int) - 18446744073709551616 := by
      unfold Sg08.signed
      rw [Nat.mod_eq_of_lt (show n < 2 ^ 64 from hn)]
      split
      · exact .inl rfl
      · exact .inr rfl
    rcases e with e | e <;> rw [e] at h ⊢ <;> omega
  · rfl
  · rfl
  · rfl
theorem wr_stored (m : Nat → UInt8) (A n v : Nat) (h : A + n ≤ 65536) : wr (cellsV m) A (bytesV v n) = cellsV (fun i => if A ≤ i ∧ i < A + n then UInt8.ofNat (v / 256 ^ (i - A) % 256) else m i) := by
  have hl : (bytesV v n).length = n := by unfold bytesV; rw [List.length_map, List.length_range]
  apply List.ext_getElem?
  intro i
  rw [wr_get _ _ _ _ (by rw [hl, cellsV_len]; exact h), hl]
  by_cases hi : i < 65536
  · rw [cellsV_get hi, cellsV_get hi]
    by_cases hin : A ≤ i ∧ i < A + n
    · rw [if_pos hin, if_pos hin]
      unfold bytesV
      rw [List.getElem?_map, List.getElem?_range (by omega)]
      show some (V.int _) = some (V.int _)
      rw [UInt8.toNat_ofNat', Nat.mod_mod]
    · rw [if_neg hin, if_neg hin]
  · rw [if_neg (by omega), List.getElem?_eq_none (by rw [cellsV_len]; omega), List.getElem?_eq_none (by rw [cellsV_len]; omega)]
theorem notT {c : Bool} {A B : Prop} (hc : c = true) (h : B) : if (!c) = true then A else B := by subst hc; exact iteF h
theorem notF {c : Bool} {A B : Prop} (hc : c = false) (h : A) : if (!c) = true then A else B := by subst hc; exact iteT h
theorem jal_eq (m : Machine) (rd v g : Nat) : { Sg08.set { m with pc := v } rd v with pc := g } = { Sg08.set m rd v with pc := g } := by unfold Sg08.set; split <;> rfl
def spStop (CM CE CI : Addr) : Sp := fun vs H Q _ => ∃ (v0 v2 : V) (p dx : Addr) (j : Ins) (e : Nat), vs = [v0, .ref p, v2] ∧ H p = some (.ins CI dx (insF j)) ∧ ((j.name = "ecall" ∧ e = 1) ∨ (j.name = "ebreak" ∧ e = 2) ∨ (j.name = "reserved" ∧ e = 3)) ∧ Q (.int ((e : Nat) : Int)) H
theorem spStop_len {CM CE CI : Addr} {x y z : Str} : ∀ vs H Q E, spStop CM CE CI vs H Q E → vs.length = [x, y, z].length := fun vs H Q E h => by obtain ⟨_, _, _, _, _, _, rfl, _⟩ := h; rfl
def fetchV (m : Machine) : V :=
  if Sg08.there m.pc 2 = true then (if Sg08.number m.mem m.pc 2 % 4 = 3 then (if Sg08.there m.pc 4 = true then .int ((Sg08.number m.mem m.pc 4 : Nat) : Int) else .non) else .int ((Sg08.number m.mem m.pc 2 : Nat) : Int)) else .non
def spFetch (CM CE CI : Addr) : Sp := fun vs H Q _ => ∃ (a : Ad) (m : Machine), vs = [.ref a.x] ∧ MAt CM CE CI H a m ∧ Q (fetchV m) H
theorem spFetch_len {CM CE CI : Addr} {x : Str} : ∀ vs H Q E, spFetch CM CE CI vs H Q E → vs.length = [x].length := fun vs H Q E h => by obtain ⟨_, _, rfl, _⟩ := h; rfl
theorem fits_n (A : Nat) : Sg08.fits ((A : Nat) : Int) 2 = Sg08.there A 2 := fits_there A 1
theorem fits_4 (A : Nat) : Sg08.fits (((A : Nat) : Int) + 2) 2 = Sg08.there A 4 := by
  unfold Sg08.fits Sg08.there Sg08.SIZE
  rw [decide_eq_true (show (0 : Int) ≤ (A : Int) + 2 by omega), show decide ((0 : Int) ≤ 2) = true from rfl, Bool.true_and, Bool.true_and]
  exact decide_eq_decide.mpr (by omega)
theorem word_turn (m : Nat → UInt8) (a : Nat) : Builtin.bitOr ((Sg08.number m a 2 : Nat) : Int) (((Sg08.number m (a + 2) 2 : Nat) : Int) * 2 ^ (16 : Int).toNat) = ((Sg08.number m a 4 : Nat) : Int) := by
  rw [show (16 : Int).toNat = 16 from rfl, ← pow_cast, ← Int.natCast_mul, or_nat]
  have h := number_lt m a 2
  rw [or_add (k := 16) h, number_2, number_2, number_4, show a + 2 + 1 = a + 3 from rfl]
  omega
end Sp8
end
section
namespace Sp8
open PySem PySem.Spec PyProof.Rows L2
open Sg08 (Alu WORD Machine Instr)
section
variable {P : Program} {w : World} {K : PySem.W.Frag} {mg : Str → Option Value} {base : Heap}
theorem sc_20 : FnScope ["name", "a", "b"] ["name", "a", "b"] (defScope (top 38)) := ⟨rfl, rfl, rfl, by decide +kernel, rfl, by decide +kernel, by decide +kernel⟩
theorem ok_1H {f_v a_v f_14 f_15 f_16 f_17 f_18 f_19 f_1a f_1b f_1c f_r f_1d f_1e f_1f f_1g f_1h f_1i f_1k f_1l f_1j f_1o f_1n f_1p f_h f_1m f_1r f_1q f_1t f_1s : Addr} (D : Def K "compute" "compute" (top 38) ["name", "a", "b"] f_v) (m_1j : mg "RESULTS" = some (.ref a_v)) (k_1 : KD P w K a_v [(.inr "add", .ref f_14), (.inr "sub", .ref f_15), (.inr "and", .ref f_16), (.inr "or", .ref f_17), (.inr "xor", .ref f_18), (.inr "sll", .ref f_19), (.inr "srl", .ref f_1a), (.inr "sra", .ref f_1b), (.inr "slt", .ref f_1c), (.inr "sltu", .ref f_r), (.inr "addw", .ref f_1d), (.inr "subw", .ref f_1e), (.inr "sllw", .ref f_1f), (.inr "srlw", .ref f_1g), (.inr "sraw", .ref f_1h), (.inr "mul", .ref f_1i), (.inr "mulh", .ref f_1k), (.inr "mulhsu", .ref f_1l), (.inr "mulhu", .ref f_1j), (.inr "div", .ref f_1o), (.inr "divu", .ref f_1n), (.inr "rem", .ref f_1p), (.inr "remu", .ref f_h), (.inr "mulw", .ref f_1m), (.inr "divw", .ref f_1r), (.inr "divuw", .ref f_1q), (.inr "remw", .ref f_1t), (.inr "remuw", .ref f_1s)]) (G_1i : Ok P w K mg base 2 f_14 ["a", "b"] (spAlu .add)) (G_1j : Ok P w K mg base 2 f_15 ["a", "b"] (spAlu .sub)) (G_1k : Ok P w K mg base 1 f_16 ["a", "b"] (spAlu .and)) (G_1l : Ok P w K mg base 1 f_17 ["a", "b"] (spAlu .or)) (G_1m : Ok P w K mg base 1 f_18 ["a", "b"] (spAlu .xor)) (G_1n : Ok P w K mg base 2 f_19 ["a", "b"] (spAlu .sll)) (G_1o : Ok P w K mg base 2 f_1a ["a", "b"] (spAlu .srl)) (G_1p : Ok P w K mg base 3 f_1b ["a", "b"] (spAlu .sra)) (G_1q : Ok P w K mg base 3 f_1c ["a", "b"] (spAlu .slt)) (G_w : Ok P w K mg base 1 f_r ["a", "b"] spLess) (G_1r : Ok P w K mg base 4 f_1d ["a", "b"] (spAlu .addw)) (G_1s : Ok P w K mg base 4 f_1e ["a", "b"] (spAlu .subw)) (G_1t : Ok P w K mg base 4 f_1f ["a", "b"] (spAlu .sllw)) (G_1u : Ok P w K mg base 4 f_1g ["a", "b"] (spAlu .srlw)) (G_1v : Ok P w K mg base 3 f_1h ["a", "b"] (spAlu .sraw)) (G_1w : Ok P w K mg base 2 f_1i ["a", "b"] (spAlu .mul)) (G_1x : Ok P w K mg base 3 f_1k ["a", "b"] (spAlu .mulh)) (G_1y : Ok P w K mg base 3 f_1l ["a", "b"] (spAlu .mulhsu)) (G_1z : Ok P w K mg base 1 f_1j ["a", "b"] (spAlu .mulhu)) (G_1A : Ok P w K mg base 3 f_1o ["a", "b"] (spAlu .div)) (G_1B : Ok P w K mg base 2 f_1n ["a", "b"] (spAlu .divu)) (G_1C : Ok P w K mg base 3 f_1p ["a", "b"] (spAlu .rem)) (G_m : Ok P w K mg base 2 f_h ["a", "b"] spRem) (G_1D : Ok P w K mg base 4 f_1m ["a", "b"] (spAlu .mulw)) (G_1E : Ok P w K mg base 4 f_1r ["a", "b"] (spAlu .divw)) (G_1F : Ok P w K mg base 4 f_1q ["a", "b"] (spAlu .divuw)) (G_1G : Ok P w K mg base 4 f_1t ["a", "b"] (spAlu .remw)) (G_1H : Ok P w K mg base 4 f_1s ["a", "b"] (spAlu .remuw)) : Ok P w K mg base 5 f_v ["name", "a", "b"] spCompute := by
  refine D.ok sc_20 spCompute_len fun cdv A outer s H vs Q E hr h => ?_
  have hu := hu_of hr
  refine ⟨_, (pss_one (ps_ret (pe_callE (pe_kget hu (pe_glob (v := .ref a_v) rfl m_1j rfl) (pv 0) (fun _ _ => rfl)) hr (pa_cons (pv 1) (pa_cons (pv 2) pa_nil))))), ?_⟩
  obtain ⟨o, a, b, rfl, ha, hb, q⟩ := h
  cases o
  case add => exact ⟨_, rfl, _, .ref f_14, rfl, .inl ⟨_, .inr "add", k_1, rfl, by kernel_rfl⟩, _, _, _, _, rfl, by decide, G_1i, _, rfl, _, rfl, a, b, rfl, ha, hb, q⟩
  case sub => exact ⟨_, rfl, _, .ref f_15, rfl, .inl ⟨_, .inr "sub", k_1, rfl, by kernel_rfl⟩, _, _, _, _, rfl, by decide, G_1j, _, rfl, _, rfl, a, b, rfl, ha, hb, q⟩
  case sll => exact ⟨_, rfl, _, .ref f_19, rfl, .inl ⟨_, .inr "sll", k_1, rfl, by kernel_rfl⟩, _, _, _, _, rfl, by decide, G_1n, _, rfl, _, rfl, a, b, rfl, ha, hb, q⟩
  case slt => exact ⟨_, rfl, _, .ref f_1c, rfl, .inl ⟨_, .inr "slt", k_1, rfl, by kernel_rfl⟩, _, _, _, _, rfl, by decide, G_1q, _, rfl, _, rfl, a, b, rfl, ha, hb, q⟩
  case sltu => exact ⟨_, rfl, _, .ref f_r, rfl, .inl ⟨_, .inr "sltu", k_1, rfl, by kernel_rfl⟩, _, _, _, _, rfl, by decide, (G_w.imp spLess_alu), _, rfl, _, rfl, a, b, rfl, ha, hb, q⟩
  case xor => exact ⟨_, rfl, _, .ref f_18, rfl, .inl ⟨_, .inr "xor", k_1, rfl, by kernel_rfl⟩, _, _, _, _, rfl, by decide, G_1m, _, rfl, _, rfl, a, b, rfl, ha, hb, q⟩
  case srl => exact ⟨_, rfl, _, .ref f_1a, rfl, .inl ⟨_, .inr "srl", k_1, rfl, by kernel_rfl⟩, _, _, _, _, rfl, by decide, G_1o, _, rfl, _, rfl, a, b, rfl, ha, hb, q⟩
  case sra => exact ⟨_, rfl, _, .ref f_1b, rfl, .inl ⟨_, .inr "sra", k_1, rfl, by kernel_rfl⟩, _, _, _, _, rfl, by decide, G_1p, _, rfl, _, rfl, a, b, rfl, ha, hb, q⟩
  case «or» => exact ⟨_, rfl, _, .ref f_17, rfl, .inl ⟨_, .inr "or", k_1, rfl, by kernel_rfl⟩, _, _, _, _, rfl, by decide, G_1l, _, rfl, _, rfl, a, b, rfl, ha, hb, q⟩
  case «and» => exact ⟨_, rfl, _, .ref f_16, rfl, .inl ⟨_, .inr "and", k_1, rfl, by kernel_rfl⟩, _, _, _, _, rfl, by decide, G_1k, _, rfl, _, rfl, a, b, rfl, ha, hb, q⟩
  case addw => exact ⟨_, rfl, _, .ref f_1d, rfl, .inl ⟨_, .inr "addw", k_1, rfl, by kernel_rfl⟩, _, _, _, _, rfl, by decide, G_1r, _, rfl, _, rfl, a, b, rfl, ha, hb, q⟩
  case subw => exact ⟨_, rfl, _, .ref f_1e, rfl, .inl ⟨_, .inr "subw", k_1, rfl, by kernel_rfl⟩, _, _, _, _, rfl, by decide, G_1s, _, rfl, _, rfl, a, b, rfl, ha, hb, q⟩
  case sllw => exact ⟨_, rfl, _, .ref f_1f, rfl, .inl ⟨_, .inr "sllw", k_1, rfl, by kernel_rfl⟩, _, _, _, _, rfl, by decide, G_1t, _, rfl, _, rfl, a, b, rfl, ha, hb, q⟩
  case srlw => exact ⟨_, rfl, _, .ref f_1g, rfl, .inl ⟨_, .inr "srlw", k_1, rfl, by kernel_rfl⟩, _, _, _, _, rfl, by decide, G_1u, _, rfl, _, rfl, a, b, rfl, ha, hb, q⟩
  case sraw => exact ⟨_, rfl, _, .ref f_1h, rfl, .inl ⟨_, .inr "sraw", k_1, rfl, by kernel_rfl⟩, _, _, _, _, rfl, by decide, G_1v, _, rfl, _, rfl, a, b, rfl, ha, hb, q⟩
  case mul => exact ⟨_, rfl, _, .ref f_1i, rfl, .inl ⟨_, .inr "mul", k_1, rfl, by kernel_rfl⟩, _, _, _, _, rfl, by decide, G_1w, _, rfl, _, rfl, a, b, rfl, ha, hb, q⟩
  case mulh => exact ⟨_, rfl, _, .ref f_1k, rfl, .inl ⟨_, .inr "mulh", k_1, rfl, by kernel_rfl⟩, _, _, _, _, rfl, by decide, G_1x, _, rfl, _, rfl, a, b, rfl, ha, hb, q⟩
  case mulhsu => exact ⟨_, rfl, _, .ref f_1l, rfl, .inl ⟨_, .inr "mulhsu", k_1, rfl, by kernel_rfl⟩, _, _, _, _, rfl, by decide, G_1y, _, rfl, _, rfl, a, b, rfl, ha, hb, q⟩
  case mulhu => exact ⟨_, rfl, _, .ref f_1j, rfl, .inl ⟨_, .inr "mulhu", k_1, rfl, by kernel_rfl⟩, _, _, _, _, rfl, by decide, G_1z, _, rfl, _, rfl, a, b, rfl, ha, hb, q⟩
  case div => exact ⟨_, rfl, _, .ref f_1o, rfl, .inl ⟨_, .inr "div", k_1, rfl, by kernel_rfl⟩, _, _, _, _, rfl, by decide, G_1A, _, rfl, _, rfl, a, b, rfl, ha, hb, q⟩
  case divu => exact ⟨_, rfl, _, .ref f_1n, rfl, .inl ⟨_, .inr "divu", k_1, rfl, by kernel_rfl⟩, _, _, _, _, rfl, by decide, G_1B, _, rfl, _, rfl, a, b, rfl, ha, hb, q⟩
  case rem => exact ⟨_, rfl, _, .ref f_1p, rfl, .inl ⟨_, .inr "rem", k_1, rfl, by kernel_rfl⟩, _, _, _, _, rfl, by decide, G_1C, _, rfl, _, rfl, a, b, rfl, ha, hb, q⟩
  case remu => exact ⟨_, rfl, _, .ref f_h, rfl, .inl ⟨_, .inr "remu", k_1, rfl, by kernel_rfl⟩, _, _, _, _, rfl, by decide, (G_m.imp spRem_alu), _, rfl, _, rfl, a, b, rfl, ha, hb, q⟩
  case mulw => exact ⟨_, rfl, _, .ref f_1m, rfl, .inl ⟨_, .inr "mulw", k_1, rfl, by kernel_rfl⟩, _, _, _, _, rfl, by decide, G_1D, _, rfl, _, rfl, a, b, rfl, ha, hb, q⟩
  case divw => exact ⟨_, rfl, _, .ref f_1r, rfl, .inl ⟨_, .inr "divw", k_1, rfl, by kernel_rfl⟩, _, _, _, _, rfl, by decide, G_1E, _, rfl, _, rfl, a, b, rfl, ha, hb, q⟩
  case divuw => exact ⟨_, rfl, _, .ref f_1q, rfl, .inl ⟨_, .inr "divuw", k_1, rfl, by kernel_rfl⟩, _, _, _, _, rfl, by decide, G_1F, _, rfl, _, rfl, a, b, rfl, ha, hb, q⟩
  case remw => exact ⟨_, rfl, _, .ref f_1t, rfl, .inl ⟨_, .inr "remw", k_1, rfl, by kernel_rfl⟩, _, _, _, _, rfl, by decide, G_1G, _, rfl, _, rfl, a, b, rfl, ha, hb, q⟩
  case remuw => exact ⟨_, rfl, _, .ref f_1s, rfl, .inl ⟨_, .inr "remuw", k_1, rfl, by kernel_rfl⟩, _, _, _, _, rfl, by decide, G_1H, _, rfl, _, rfl, a, b, rfl, ha, hb, q⟩
theorem sc_21 : FnScope ["name", "a", "b"] ["name", "a", "b"] (defScope (top 39)) := ⟨rfl, rfl, rfl, by decide +kernel, rfl, by decide +kernel, by decide +kernel⟩
theorem ok_1I {f_1M f_6 : Addr} (D : Def K "branch_holds" "branch_holds" (top 39) ["name", "a", "b"] f_1M) (m_5 : mg "signed" = some (.ref f_6)) (G_5 : Ok P w K mg base 2 f_6 ["number", "width"] spSigned) : Ok P w K mg base 3 f_1M ["name", "a", "b"] spBranch := by
  refine D.ok sc_21 spBranch_len fun cdv A outer s H vs Q E hr h => ?_
  refine ⟨_, (pss_cons (ps_if (pt_cmpR op_eq (pv 0) pe_str (nomark _)) (pss_one (ps_ret (pe_cmpR op_eq (pv 1) (pv 2) (nomark _)))) pss_nil) (pss_cons (ps_if (pt_cmpR op_eq (pv 0) pe_str (nomark _)) (pss_one (ps_ret (pe_cmpR op_ne (pv 1) (pv 2) (nomark _)))) pss_nil) (pss_cons (ps_if (pt_cmpR op_eq (pv 0) pe_str (nomark _)) (pss_one (ps_ret (pe_cmpR op_lt (pv 1) (pv 2) (nomark _)))) pss_nil) (pss_cons (ps_if (pt_cmpR op_eq (pv 0) pe_str (nomark _)) (pss_one (ps_ret (pe_cmpR op_ge (pv 1) (pv 2) (nomark _)))) pss_nil) (pss_cons (ps_if (pt_cmpR op_eq (pv 0) pe_str (nomark _)) (pss_one (ps_ret (pe_cmpR op_lt (pe_g m_5 G_5 hr (pa_cons (pv 1) (pa_cons pe_int pa_nil))) (pe_g m_5 G_5 hr (pa_cons (pv 2) (pa_cons pe_int pa_nil))) (nomark _)))) pss_nil) (pss_one (ps_ret (pe_cmpR op_ge (pe_g m_5 G_5 hr (pa_cons (pv 1) (pa_cons pe_int pa_nil))) (pe_g m_5 G_5 hr (pa_cons (pv 2) (pa_cons pe_int pa_nil))) (nomark _))))))))), ?_⟩
  obtain ⟨k, a, b, rfl, hk, ha, hb, q⟩ := h
  rcases hk with rfl | rfl | rfl | rfl | rfl | rfl
  · refine ⟨_, rfl, rfl, _, rfl, ite2 (fun _ => ?_) fun e => (e (by decide +kernel)).elim⟩
    exact ⟨_, rfl, _, rfl, rfl, qe (congrArg V.bl (dec_nat a b)) q⟩
  · refine ⟨_, rfl, rfl, _, rfl, ite2 (fun e => (snoe (by decide +kernel) e).elim) fun _ => ?_⟩
    refine ⟨_, rfl, rfl, _, rfl, ite2 (fun _ => ?_) fun e => (e (by decide +kernel)).elim⟩
    exact ⟨_, rfl, _, rfl, rfl, qe (congrArg V.bl (congrArg (fun z => !z) (dec_nat a b))) q⟩
  · refine ⟨_, rfl, rfl, _, rfl, ite2 (fun e => (snoe (by decide +kernel) e).elim) fun _ => ?_⟩
    refine ⟨_, rfl, rfl, _, rfl, ite2 (fun e => (snoe (by decide +kernel) e).elim) fun _ => ?_⟩
    refine ⟨_, rfl, rfl, _, rfl, ite2 (fun e => (snoe (by decide +kernel) e).elim) fun _ => ?_⟩
    refine ⟨_, rfl, rfl, _, rfl, ite2 (fun e => (snoe (by decide +kernel) e).elim) fun _ => ?_⟩
    refine ⟨_, rfl, rfl, _, rfl, ite2 (fun _ => ?_) fun e => (e (by decide +kernel)).elim⟩
    exact ⟨_, rfl, _, _, rfl, ⟨by decide, by decide⟩, _, rfl, _, _, rfl, ⟨by decide, by decide⟩, _, _, rfl, rfl, qe (congrArg V.bl (by rw [signedZ64, signedZ64]; rfl)) q⟩
  · refine ⟨_, rfl, rfl, _, rfl, ite2 (fun e => (snoe (by decide +kernel) e).elim) fun _ => ?_⟩
    refine ⟨_, rfl, rfl, _, rfl, ite2 (fun e => (snoe (by decide +kernel) e).elim) fun _ => ?_⟩
    refine ⟨_, rfl, rfl, _, rfl, ite2 (fun e => (snoe (by decide +kernel) e).elim) fun _ => ?_⟩
    refine ⟨_, rfl, rfl, _, rfl, ite2 (fun e => (snoe (by decide +kernel) e).elim) fun _ => ?_⟩
    refine ⟨_, rfl, rfl, _, rfl, ite2 (fun e => (snoe (by decide +kernel) e).elim) fun _ => ?_⟩
    exact ⟨_, rfl, _, _, rfl, ⟨by decide, by decide⟩, _, rfl, _, _, rfl, ⟨by decide, by decide⟩, _, _, rfl, rfl, qe (congrArg V.bl (by rw [signedZ64, signedZ64]; rfl)) q⟩
  · refine ⟨_, rfl, rfl, _, rfl, ite2 (fun e => (snoe (by decide +kernel) e).elim) fun _ => ?_⟩
    refine ⟨_, rfl, rfl, _, rfl, ite2 (fun e => (snoe (by decide +kernel) e).elim) fun _ => ?_⟩
    refine ⟨_, rfl, rfl, _, rfl, ite2 (fun _ => ?_) fun e => (e (by decide +kernel)).elim⟩
    exact ⟨_, rfl, _, rfl, _, _, rfl, rfl, qe (congrArg V.bl (decide_eq_decide.mpr (by omega))) q⟩
  · refine ⟨_, rfl, rfl, _, rfl, ite2 (fun e => (snoe (by decide +kernel) e).elim) fun _ => ?_⟩
    refine ⟨_, rfl, rfl, _, rfl, ite2 (fun e => (snoe (by decide +kernel) e).elim) fun _ => ?_⟩
    refine ⟨_, rfl, rfl, _, rfl, ite2 (fun e => (snoe (by decide +kernel) e).elim) fun _ => ?_⟩
    refine ⟨_, rfl, rfl, _, rfl, ite2 (fun _ => ?_) fun e => (e (by decide +kernel)).elim⟩
    exact ⟨_, rfl, _, rfl, _, _, rfl, rfl, qe (congrArg V.bl (decide_eq_decide.mpr (by omega))) q⟩
theorem sc_22 : FnScope ["self", "which", "value"] ["self", "which", "value"] (defScope (inClass (top 177) 5)) := ⟨rfl, rfl, rfl, by decide +kernel, rfl, by decide +kernel, by decide +kernel⟩
theorem ok_1J {f_me C_2 C_1 C_0 : Addr} (D : Def K "write_register" "Machine.write_register" (inClass (top 177) 5) ["self", "which", "value"] f_me)  (TM : MchC K C_2) : Ok P w K mg base 1 f_me ["self", "which", "value"] (spWrite C_2 C_1 C_0) := by
  refine D.ok sc_22 spWrite_len fun cdv A outer s H vs Q E hr h => ?_
  refine ⟨_, (pss_one (ps_if (pt_cmpR op_ne (pv 1) pe_int (nomark _)) (pss_one (ps_asg (pv 2) (pg_sub (pe_fld (pv 0) rfl) (pv 1) set_list))) pss_nil)), ?_⟩
  obtain ⟨a, m, r, v, rfl, M, hr', hv, k⟩ := h
  refine ⟨_, rfl, rfl, _, rfl, ?_⟩
  refine ite2 (fun e => ?_) fun e => ?_
  · have h0 := tne (b := 0) e
    refine ⟨_, rfl, _, rfl, a.x, _, a.dx, _, _, rfl, M.ob, TM.cl, TM.n2, mF_registers _ _ _, _, rfl, a.regs, _, _, r, rfl, rfl, M.re, ixN_nat (by rw [regsV_len]; exact hr'), ?_⟩
    exact k _ (M.setReg h0 hr' hv) fun b o e _ _ h3 _ => by rw [upd_ne h3]; exact e
  · have h0 := tneF (b := 0) e
    refine k H ?_ (Frm.refl _ _)
    subst h0
    exact M
theorem sc_9 : FnScope ["machine", "instruction", "after", "first", "second"] ["machine", "instruction", "after"] (defScope (top 151)) := ⟨rfl, rfl, rfl, by decide +kernel, rfl, by decide +kernel, by decide +kernel⟩
theorem ok_1K {f_1u C_2 C_1 C_0 f_v : Addr} {t_0 : Tok} (D : Def K "do_registers" "do_registers" (top 151) ["machine", "instruction", "after"] f_1u) (m_8 : mg "NOT_STOPPED" = some (.int 0 t_0)) (c_0 : Cls K C_2) (G_e : OkM P w K mg base 1 C_2 "write_register" ["self", "which", "value"] (spWrite C_2 C_1 C_0)) (m_G : mg "compute" = some (.ref f_v)) (G_A : Ok P w K mg base 5 f_v ["name", "a", "b"] spCompute) (TM : MchC K C_2) (TE : MemC K C_1) (TI : InsC K C_0) : Ok P w K mg base 6 f_1u ["machine", "instruction", "after"] (spDo C_2 C_1 C_0 0) := by
  refine D.ok sc_9 spDo_len fun cdv A outer s H vs Q E hr h => ?_
  refine ⟨_, (pss_cons (ps_set (i := 3) sc_9.nd rfl (Or.inl rfl) (pe_ix ix_list (pe_fld (pv 0) rfl) (pe_fld (pv 1) rfl) (fun _ _ => rfl))) (pss_cons (ps_set (i := 4) sc_9.nd rfl (Or.inl rfl) (pe_ix ix_list (pe_fld (pv 0) rfl) (pe_fld (pv 1) rfl) (fun _ _ => rfl))) (pss_cons (ps_expr (pe_m (pv 0) c_0 G_e hr (pa_cons (pe_fld (pv 1) rfl) (pa_cons (pe_g m_G G_A hr (pa_cons (pe_fld (pv 1) rfl) (pa_cons (pv 3) (pa_cons (pv 4) pa_nil)))) pa_nil)))) (pss_cons (ps_fld (pv 0) (pv 2) rfl) (pss_one (ps_ret (pe_glob (v := .int 0) rfl m_8 ⟨_, rfl⟩))))))), ?_⟩
  obtain ⟨a, m, p, dx, i, n, rfl, ⟨M, hp, hn, hg, he⟩, hf, q⟩ := h
  obtain ⟨g1, g2⟩ := go_even M hn
  cases i <;> try (cases hf; done)
  case reg o rd ra rb =>
    obtain ⟨h1, h2, h3⟩ := hg
    refine ⟨_, rfl, a.x, _, a.dx, _, _, rfl, M.ob, TM.cl, TM.n2, mF_registers _ _ _, _, rfl, p, _, dx, _, _, rfl, hp, TI.cl, TI.n4, insF_first _, a.regs, _, _, _, rfl, rfl, SqL.of M.re, atI_nat (regsV_get h2), _, rfl, a.x, _, a.dx, _, _, rfl, M.ob, TM.cl, TM.n2, mF_registers _ _ _, _, rfl, p, _, dx, _, _, rfl, hp, TI.cl, TI.n5, insF_second _, a.regs, _, _, _, rfl, rfl, SqL.of M.re, atI_nat (regsV_get h3), _, rfl, a.x, a.dx, _, rfl, M.ob, reason_no _ _ _, _, rfl, p, _, dx, _, _, rfl, hp, TI.cl, TI.n3, insF_target _, _, rfl, p, _, dx, _, _, rfl, hp, TI.cl, TI.n2, insF_name _, _, rfl, _, rfl, o, _, _, rfl, M.reg_lt _, M.reg_lt _, a, m, rd, _, rfl, M, h1, alu_lt o (M.reg_lt _) (M.reg_lt _), fun H1 M1 f1 => ?_⟩
    refine ⟨_, rfl, _, rfl, a.x, _, a.dx, _, rfl, M1.ob, TM.cl, TM.n3, mF_len _ _ _, ?_⟩
    exact q.1 _ _ rfl (set_go M1 g1 g2) (f1.trans (Frm.updX _ _ _))
theorem sc_y : FnScope ["machine", "instruction", "after", "first"] ["machine", "instruction", "after"] (defScope (top 152)) := ⟨rfl, rfl, rfl, by decide +kernel, rfl, by decide +kernel, by decide +kernel⟩
theorem ok_1L {f_13 C_2 C_1 C_0 f_v : Addr} {t_0 : Tok} (D : Def K "do_immediate" "do_immediate" (top 152) ["machine", "instruction", "after"] f_13) (m_8 : mg "NOT_STOPPED" = some (.int 0 t_0)) (c_0 : Cls K C_2) (G_e : OkM P w K mg base 1 C_2 "write_register" ["self", "which", "value"] (spWrite C_2 C_1 C_0)) (m_G : mg "compute" = some (.ref f_v)) (G_A : Ok P w K mg base 5 f_v ["name", "a", "b"] spCompute) (TM : MchC K C_2) (TE : MemC K C_1) (TI : InsC K C_0) : Ok P w K mg base 6 f_13 ["machine", "instruction", "after"] (spDo C_2 C_1 C_0 1) := by
  refine D.ok sc_y spDo_len fun cdv A outer s H vs Q E hr h => ?_
  refine ⟨_, (pss_cons (ps_set (i := 3) sc_y.nd rfl (Or.inl rfl) (pe_ix ix_list (pe_fld (pv 0) rfl) (pe_fld (pv 1) rfl) (fun _ _ => rfl))) (pss_cons (ps_expr (pe_m (pv 0) c_0 G_e hr (pa_cons (pe_fld (pv 1) rfl) (pa_cons (pe_g m_G G_A hr (pa_cons (pe_fld (pv 1) rfl) (pa_cons (pv 3) (pa_cons (pe_fld (pv 1) rfl) pa_nil)))) pa_nil)))) (pss_cons (ps_fld (pv 0) (pv 2) rfl) (pss_one (ps_ret (pe_glob (v := .int 0) rfl m_8 ⟨_, rfl⟩)))))), ?_⟩
  obtain ⟨a, m, p, dx, i, n, rfl, ⟨M, hp, hn, hg, he⟩, hf, q⟩ := h
  obtain ⟨g1, g2⟩ := go_even M hn
  cases i <;> try (cases hf; done)
  case imm o rd rs z =>
    obtain ⟨h1, h2⟩ := hg
    refine ⟨_, rfl, a.x, _, a.dx, _, _, rfl, M.ob, TM.cl, TM.n2, mF_registers _ _ _, _, rfl, p, _, dx, _, _, rfl, hp, TI.cl, TI.n4, insF_first _, a.regs, _, _, _, rfl, rfl, SqL.of M.re, atI_nat (regsV_get h2), _, rfl, a.x, a.dx, _, rfl, M.ob, reason_no _ _ _, _, rfl, p, _, dx, _, _, rfl, hp, TI.cl, TI.n3, insF_target _, _, rfl, p, _, dx, _, _, rfl, hp, TI.cl, TI.n2, insF_name _, _, rfl, _, rfl, p, _, dx, _, _, rfl, hp, TI.cl, TI.n6, insF_imm _, o, _, _, rfl, M.reg_lt _, wrap_lt _, a, m, rd, _, rfl, M, h1, alu_lt o (M.reg_lt _) (wrap_lt _), fun H1 M1 f1 => ?_⟩
    refine ⟨_, rfl, _, rfl, a.x, _, a.dx, _, rfl, M1.ob, TM.cl, TM.n3, mF_len _ _ _, ?_⟩
    exact q.1 _ _ rfl (set_go M1 g1 g2) (f1.trans (Frm.updX _ _ _))
  case lui rd z =>
    refine ⟨_, rfl, a.x, _, a.dx, _, _, rfl, M.ob, TM.cl, TM.n2, mF_registers _ _ _, _, rfl, p, _, dx, _, _, rfl, hp, TI.cl, TI.n4, insF_first _, a.regs, _, _, _, rfl, rfl, SqL.of M.re, atI_nat (regsV_get (by decide)), _, rfl, a.x, a.dx, _, rfl, M.ob, reason_no _ _ _, _, rfl, p, _, dx, _, _, rfl, hp, TI.cl, TI.n3, insF_target _, _, rfl, p, _, dx, _, _, rfl, hp, TI.cl, TI.n2, insF_name _, _, rfl, _, rfl, p, _, dx, _, _, rfl, hp, TI.cl, TI.n6, insF_imm _, .add, _, _, rfl, M.reg_lt _, wrap_lt _, a, m, rd, _, rfl, M, hg, alu_lt .add (M.reg_lt _) (wrap_lt _), fun H1 M1 f1 => ?_⟩
    refine ⟨_, rfl, _, rfl, a.x, _, a.dx, _, rfl, M1.ob, TM.cl, TM.n3, mF_len _ _ _, ?_⟩
    refine q.1 _ _ ?_ (set_go M1 g1 g2) (f1.trans (Frm.updX _ _ _))
    show Except.ok (Sg08.set _ rd (Sg08.wrap z)) = Except.ok (Sg08.set _ rd (Alu.of .add (m.regs 0) (Sg08.wrap z)))
    rw [add_zero_reg M.wh.regs.1 (wrap_lt _)]
theorem sc_23 : FnScope ["machine", "instruction", "after"] ["machine", "instruction", "after"] (defScope (top 153)) := ⟨rfl, rfl, rfl, by decide +kernel, rfl, by decide +kernel, by decide +kernel⟩
theorem ok_1M {f_1v C_2 C_1 C_0 f_4 : Addr} {t_0 : Tok} (D : Def K "do_pc" "do_pc" (top 153) ["machine", "instruction", "after"] f_1v) (m_8 : mg "NOT_STOPPED" = some (.int 0 t_0)) (c_0 : Cls K C_2) (G_e : OkM P w K mg base 1 C_2 "write_register" ["self", "which", "value"] (spWrite C_2 C_1 C_0)) (m_4 : mg "wrap" = some (.ref f_4)) (G_4 : Ok P w K mg base 1 f_4 ["number"] spWrap) (TM : MchC K C_2) (TE : MemC K C_1) (TI : InsC K C_0) : Ok P w K mg base 2 f_1v ["machine", "instruction", "after"] (spDo C_2 C_1 C_0 2) := by
  refine D.ok sc_23 spDo_len fun cdv A outer s H vs Q E hr h => ?_
  refine ⟨_, (pss_cons (ps_expr (pe_m (pv 0) c_0 G_e hr (pa_cons (pe_fld (pv 1) rfl) (pa_cons (pe_g m_4 G_4 hr (pa_cons (pe_op op_add (pe_fld (pv 0) rfl) (pe_fld (pv 1) rfl)) pa_nil)) pa_nil)))) (pss_cons (ps_fld (pv 0) (pv 2) rfl) (pss_one (ps_ret (pe_glob (v := .int 0) rfl m_8 ⟨_, rfl⟩))))), ?_⟩
  obtain ⟨a, m, p, dx, i, n, rfl, ⟨M, hp, hn, hg, he⟩, hf, q⟩ := h
  obtain ⟨g1, g2⟩ := go_even M hn
  cases i <;> try (cases hf; done)
  case auipc rd z =>
    refine ⟨_, rfl, a.x, a.dx, _, rfl, M.ob, reason_no _ _ _, _, rfl, p, _, dx, _, _, rfl, hp, TI.cl, TI.n3, insF_target _, _, rfl, a.x, _, a.dx, _, _, rfl, M.ob, TM.cl, TM.n3, mF_pc _ _ _, _, rfl, p, _, dx, _, _, rfl, hp, TI.cl, TI.n6, insF_imm _, _, _, rfl, rfl, _, rfl, trivial, a, m, rd, Sg08.wrap ((m.pc : Int) + z), congrArg (fun v => [V.ref a.x, V.int ((rd : Nat) : Int), V.int v]) (wrap_add m.pc z), M, hg, wrap_lt _, fun H1 M1 f1 => ?_⟩
    refine ⟨_, rfl, _, rfl, a.x, _, a.dx, _, rfl, M1.ob, TM.cl, TM.n3, mF_len _ _ _, ?_⟩
    exact q.1 _ _ rfl (set_go M1 g1 g2) (f1.trans (Frm.updX _ _ _))
theorem sc_24 : FnScope ["machine", "instruction"] ["machine", "instruction"] (defScope (top 154)) := ⟨rfl, rfl, rfl, by decide +kernel, rfl, by decide +kernel, by decide +kernel⟩
theorem ok_1N {f_p f_4 C_2 C_1 C_0 : Addr} (D : Def K "address_of" "address_of" (top 154) ["machine", "instruction"] f_p) (m_4 : mg "wrap" = some (.ref f_4)) (G_4 : Ok P w K mg base 1 f_4 ["number"] spWrap) (TM : MchC K C_2) (TE : MemC K C_1) (TI : InsC K C_0) : Ok P w K mg base 2 f_p ["machine", "instruction"] (spAddr C_2 C_1 C_0) := by
  refine D.ok sc_24 spAddr_len fun cdv A outer s H vs Q E hr h => ?_
  refine ⟨_, (pss_one (ps_ret (pe_g m_4 G_4 hr (pa_cons (pe_op op_add (pe_ix ix_list (pe_fld (pv 0) rfl) (pe_fld (pv 1) rfl) (fun _ _ => rfl)) (pe_fld (pv 1) rfl)) pa_nil)))), ?_⟩
  obtain ⟨a, m, p, dx, j, r, z, rfl, M, hp, hj, hz, hr', q⟩ := h
  refine ⟨_, rfl, a.x, _, a.dx, _, _, rfl, M.ob, TM.cl, TM.n2, mF_registers _ _ _, _, rfl, p, _, dx, _, _, rfl, hp, TI.cl, TI.n4, insF_first _, a.regs, _, _, _, rfl, rfl, SqL.of M.re, at_of hj (regsV_get hr'), _, rfl, p, _, dx, _, _, rfl, hp, TI.cl, TI.n6, insF_imm _, _, _, rfl, rfl, _, rfl, trivial, ?_⟩
  exact qe (congrArg V.int ((congrArg (fun t => wrapZ ((m.regs r : Int) + t)) hz).trans (wrap_add _ _))) q
theorem sc_0 : FnScope ["machine", "instruction", "after", "address", "size", "number"] ["machine", "instruction", "after"] (defScope (top 155)) := ⟨rfl, rfl, rfl, by decide +kernel, rfl, by decide +kernel, by decide +kernel⟩
theorem ok_1O {f_1w C_2 C_1 C_0 a_7 f_1 a_4 f_p : Addr} {t_0 t_9 : Tok} (D : Def K "do_load" "do_load" (top 155) ["machine", "instruction", "after"] f_1w) (m_8 : mg "NOT_STOPPED" = some (.int 0 t_0)) (c_0 : Cls K C_2) (G_e : OkM P w K mg base 1 C_2 "write_register" ["self", "which", "value"] (spWrite C_2 C_1 C_0)) (m_1k : mg "SIGNED_LOADS" = some (.ref a_7)) (m_1 : mg "extend" = some (.ref f_1)) (G_1 : Ok P w K mg base 3 f_1 ["number", "width"] spExtend) (c_2 : Cls K C_1) (G_1I : OkM P w K mg base 1 C_1 "load_number" ["self", "place", "n"] (spLoadNumber C_1)) (G_g : OkM P w K mg base 1 C_1 "holds" ["self", "place", "n"] spHolds) (m_u : mg "NOT_IN_MEMORY" = some (.int 4 t_9)) (m_H : mg "SIZES" = some (.ref a_4)) (m_v : mg "address_of" = some (.ref f_p)) (G_t : Ok P w K mg base 2 f_p ["machine", "instruction"] (spAddr C_2 C_1 C_0)) (k_9 : KD P w K a_4 kv_0) (s_0 : ∀ H, SqT K H a_7 [.str "lb", .str "lh", .str "lw"]) (TM : MchC K C_2) (TE : MemC K C_1) (TI : InsC K C_0) : Ok P w K mg base 4 f_1w ["machine", "instruction", "after"] (spDo C_2 C_1 C_0 3) := by
  refine D.ok sc_0 spDo_len fun cdv A outer s H vs Q E hr h => ?_
  have hu := hu_of hr
  refine ⟨_, (pss_cons (ps_set (i := 3) sc_0.nd rfl (Or.inl rfl) (pe_g m_v G_t hr (pa_cons (pv 0) (pa_cons (pv 1) pa_nil)))) (pss_cons (ps_set (i := 4) sc_0.nd rfl (Or.inl rfl) (pe_kget hu (pe_glob (v := .ref a_4) rfl m_H rfl) (pe_fld (pv 1) rfl) (fun _ _ => rfl))) (pss_cons (ps_if (pt_not (pt_val (pe_m (pe_fld (pv 0) rfl) c_2 G_g hr (pa_cons (pv 3) (pa_cons (pv 4) pa_nil))))) (pss_one (ps_ret (pe_glob (v := .int 4) rfl m_u ⟨_, rfl⟩))) pss_nil) (pss_cons (ps_set (i := 5) sc_0.nd rfl (Or.inl rfl) (pe_m (pe_fld (pv 0) rfl) c_2 G_1I hr (pa_cons (pv 3) (pa_cons (pv 4) pa_nil)))) (pss_cons (ps_if (pt_cmpR op_in_seq (pe_fld (pv 1) rfl) (pe_glob (v := .ref a_7) rfl m_1k rfl) rfl) (pss_one (ps_set (i := 5) sc_0.nd rfl (Or.inl rfl) (pe_g m_1 G_1 hr (pa_cons (pv 5) (pa_cons (pe_op op_mul pe_int (pv 4)) pa_nil))))) pss_nil) (pss_cons (ps_expr (pe_m (pv 0) c_0 G_e hr (pa_cons (pe_fld (pv 1) rfl) (pa_cons (pv 5) pa_nil)))) (pss_cons (ps_fld (pv 0) (pv 2) rfl) (pss_one (ps_ret (pe_glob (v := .int 0) rfl m_8 ⟨_, rfl⟩)))))))))), ?_⟩
  obtain ⟨a, m, p, dx, i, n, rfl, ⟨M, hp, hn, hg, he⟩, hf, q⟩ := h
  obtain ⟨g1, g2⟩ := go_even M hn
  cases i <;> try (cases hf; done)
  case load k rd rs z =>
    obtain ⟨hk, h1, h2⟩ := hg
    have esz := sz_tab k hk
    have esg := sg_tab k hk
    have hx : exec m (.load k rd rs z) n = if Sg08.there (Sg08.wrap ((m.regs rs : Int) + z)) (Sg08.sizeOf k) = true then .ok (Sg08.set { m with pc := (m.pc + n) % WORD } rd (Sg08.loaded k (Sg08.number m.mem (Sg08.wrap ((m.regs rs : Int) + z)) (Sg08.sizeOf k)))) else .error 4 := rfl
    refine ⟨_, rfl, _, rfl, a, m, p, dx, _, rs, z, rfl, M, hp, rfl, rfl, h2, ?_⟩
    generalize Sg08.wrap ((m.regs rs : Int) + z) = B at hx ⊢
    refine ⟨_, rfl, p, _, dx, _, _, rfl, hp, TI.cl, TI.n2, insF_name _, _, .int ((Sg08.sizeOf k : Nat) : Int), rfl, .inl ⟨_, .inr (ldN k), k_9, rfl, esz.symm⟩, _, rfl, a.x, _, a.dx, _, _, rfl, M.ob, TM.cl, TM.n1, mF_memory _ _ _, a.mem, a.dm, _, rfl, M.me, holds_no _, _, rfl, _, rfl, _, _, _, rfl, _, rfl, ?_⟩
    by_cases ht : Sg08.there B (Sg08.sizeOf k) = true
    · rw [if_pos ht] at hx
      have hA : B + Sg08.sizeOf k ≤ 65536 := of_decide_eq_true ht
      have h8 : Sg08.sizeOf k ≤ 8 := by rcases sizeOf_cases (k := k) with e | e | e | e <;> omega
      have hN := number_lt m.mem B (Sg08.sizeOf k)
      have hv := load_val k _ hk hN
      refine notT (by rw [fits_there]; exact ht) ⟨_, rfl, a.x, _, a.dx, _, _, rfl, M.ob, TM.cl, TM.n1, mF_memory _ _ _, a.mem, a.dm, _, rfl, M.me, ln_no _, _, rfl, _, rfl, a.mem, a.dm, a.cells, B, _, m.mem, rfl, M.me, M.ce, hA, h8, ?_⟩
      refine ⟨_, rfl, p, _, dx, _, _, rfl, hp, TI.cl, TI.n2, insF_name _, a_7, _, rfl, .inr (s_0 _), rfl, rfl, _, rfl, ?_⟩
      refine ite2 (fun e => ?_) fun e => ?_
      · have e3 : k < 3 := of_decide_eq_true (esg.symm.trans e)
        rw [if_pos e3] at hv
        have h64 : (1 : Int) ≤ 8 * ((Sg08.sizeOf k : Nat) : Int) ∧ 8 * ((Sg08.sizeOf k : Nat) : Int) ≤ 64 := by rcases sizeOf_cases (k := k) with e | e | e | e <;> omega
        exact ⟨_, rfl, _, rfl, _, _, rfl, rfl, .inl ⟨by decide, by decide⟩, _, _, rfl, h64, _, rfl, a.x, a.dx, _, rfl, M.ob, reason_no _ _ _, _, rfl, p, _, dx, _, _, rfl, hp, TI.cl, TI.n3, insF_target _, _, rfl, a, m, rd, Sg08.loaded k (Sg08.number m.mem B (Sg08.sizeOf k)), congrArg (fun v => [V.ref a.x, V.int ((rd : Nat) : Int), V.int v]) hv, M, h1, loaded_lt _ _ hN, fun H1 M1 f1 => ⟨_, rfl, _, rfl, a.x, _, a.dx, _, rfl, M1.ob, TM.cl, TM.n3, mF_len _ _ _, q.1 _ _ hx (set_go M1 g1 g2) (f1.trans (Frm.updX _ _ _))⟩⟩
      · have e3 : ¬ k < 3 := fun z => e (esg.trans (decide_eq_true z))
        rw [if_neg e3] at hv
        exact ⟨_, rfl, a.x, a.dx, _, rfl, M.ob, reason_no _ _ _, _, rfl, p, _, dx, _, _, rfl, hp, TI.cl, TI.n3, insF_target _, _, rfl, a, m, rd, Sg08.loaded k (Sg08.number m.mem B (Sg08.sizeOf k)), congrArg (fun v => [V.ref a.x, V.int ((rd : Nat) : Int), V.int v]) hv, M, h1, loaded_lt _ _ hN, fun H1 M1 f1 => ⟨_, rfl, _, rfl, a.x, _, a.dx, _, rfl, M1.ob, TM.cl, TM.n3, mF_len _ _ _, q.1 _ _ hx (set_go M1 g1 g2) (f1.trans (Frm.updX _ _ _))⟩⟩
    · rw [if_neg ht] at hx
      exact notF (by rw [fits_there]; exact Bool.eq_false_iff.mpr ht) (q.2 4 hx)
theorem sc_a : FnScope ["machine", "instruction", "after", "address", "size"] ["machine", "instruction", "after"] (defScope (top 156)) := ⟨rfl, rfl, rfl, by decide +kernel, rfl, by decide +kernel, by decide +kernel⟩
theorem ok_1P {f_1x C_1 a_4 f_p C_2 C_0 : Addr} {t_0 t_9 : Tok} (D : Def K "do_store" "do_store" (top 156) ["machine", "instruction", "after"] f_1x) (m_8 : mg "NOT_STOPPED" = some (.int 0 t_0)) (c_2 : Cls K C_1) (G_1J : OkM P w K mg base 2 C_1 "store_number" ["self", "place", "n", "number"] (spStoreNumber C_1)) (G_g : OkM P w K mg base 1 C_1 "holds" ["self", "place", "n"] spHolds) (m_u : mg "NOT_IN_MEMORY" = some (.int 4 t_9)) (m_H : mg "SIZES" = some (.ref a_4)) (m_v : mg "address_of" = some (.ref f_p)) (G_t : Ok P w K mg base 2 f_p ["machine", "instruction"] (spAddr C_2 C_1 C_0)) (k_9 : KD P w K a_4 kv_0) (TM : MchC K C_2) (TE : MemC K C_1) (TI : InsC K C_0) : Ok P w K mg base 3 f_1x ["machine", "instruction", "after"] (spDo C_2 C_1 C_0 4) := by
  refine D.ok sc_a spDo_len fun cdv A outer s H vs Q E hr h => ?_
  have hu := hu_of hr
  refine ⟨_, (pss_cons (ps_set (i := 3) sc_a.nd rfl (Or.inl rfl) (pe_g m_v G_t hr (pa_cons (pv 0) (pa_cons (pv 1) pa_nil)))) (pss_cons (ps_set (i := 4) sc_a.nd rfl (Or.inl rfl) (pe_kget hu (pe_glob (v := .ref a_4) rfl m_H rfl) (pe_fld (pv 1) rfl) (fun _ _ => rfl))) (pss_cons (ps_if (pt_not (pt_val (pe_m (pe_fld (pv 0) rfl) c_2 G_g hr (pa_cons (pv 3) (pa_cons (pv 4) pa_nil))))) (pss_one (ps_ret (pe_glob (v := .int 4) rfl m_u ⟨_, rfl⟩))) pss_nil) (pss_cons (ps_expr (pe_m (pe_fld (pv 0) rfl) c_2 G_1J hr (pa_cons (pv 3) (pa_cons (pv 4) (pa_cons (pe_ix ix_list (pe_fld (pv 0) rfl) (pe_fld (pv 1) rfl) (fun _ _ => rfl)) pa_nil))))) (pss_cons (ps_fld (pv 0) (pv 2) rfl) (pss_one (ps_ret (pe_glob (v := .int 0) rfl m_8 ⟨_, rfl⟩)))))))), ?_⟩
  obtain ⟨a, m, p, dx, i, n, rfl, ⟨M, hp, hn, hg, he⟩, hf, q⟩ := h
  obtain ⟨g1, g2⟩ := go_even M hn
  cases i <;> try (cases hf; done)
  case store k rs rb z =>
    obtain ⟨hk, h2, h3⟩ := hg
    have esz := szs_tab k hk
    have hx : exec m (.store k rs rb z) n = if Sg08.there (Sg08.wrap ((m.regs rs : Int) + z)) (Sg08.sizeOf k) = true then .ok (Sg08.stored { m with pc := (m.pc + n) % WORD } (Sg08.wrap ((m.regs rs : Int) + z)) (Sg08.sizeOf k) (m.regs rb)) else .error 4 := rfl
    refine ⟨_, rfl, _, rfl, a, m, p, dx, _, rs, z, rfl, M, hp, rfl, rfl, h2, ?_⟩
    generalize Sg08.wrap ((m.regs rs : Int) + z) = B at hx ⊢
    refine ⟨_, rfl, p, _, dx, _, _, rfl, hp, TI.cl, TI.n2, insF_name _, _, .int ((Sg08.sizeOf k : Nat) : Int), rfl, .inl ⟨_, .inr (stN k), k_9, rfl, esz.symm⟩, _, rfl, a.x, _, a.dx, _, _, rfl, M.ob, TM.cl, TM.n1, mF_memory _ _ _, a.mem, a.dm, _, rfl, M.me, holds_no _, _, rfl, _, rfl, _, _, _, rfl, _, rfl, ?_⟩
    by_cases ht : Sg08.there B (Sg08.sizeOf k) = true
    · rw [if_pos ht] at hx
      have hA : B + Sg08.sizeOf k ≤ 65536 := of_decide_eq_true ht
      have h8 : Sg08.sizeOf k ≤ 8 := by rcases sizeOf_cases (k := k) with e | e | e | e <;> omega
      refine notT (by rw [fits_there]; exact ht) ⟨_, rfl, a.x, _, a.dx, _, _, rfl, M.ob, TM.cl, TM.n1, mF_memory _ _ _, a.mem, a.dm, _, rfl, M.me, sn_no _, _, rfl, _, rfl, _, rfl, a.x, _, a.dx, _, _, rfl, M.ob, TM.cl, TM.n2, mF_registers _ _ _, _, rfl, p, _, dx, _, _, rfl, hp, TI.cl, TI.n5, insF_second _, a.regs, _, _, _, rfl, rfl, SqL.of M.re, atI_nat (regsV_get h3), a.mem, a.dm, a.cells, B, _, m.regs rb, _, rfl, M.me, M.ce, by rw [cellsV_len]; exact hA, h8, fun H1 hc k1 => ?_⟩
      rw [wr_stored _ _ _ _ hA] at hc
      have M1 := M.setMem hc k1
      refine ⟨_, rfl, _, rfl, a.x, _, a.dx, _, rfl, M1.ob, TM.cl, TM.n3, mF_len _ _ _, ?_⟩
      exact q.1 _ _ hx (M1.setPc g1 g2) (Frm.trans (H1 := H1) (fun b o e _ h2 _ _ => k1 b o e h2) (Frm.updX _ _ _))
    · rw [if_neg ht] at hx
      exact notF (by rw [fits_there]; exact Bool.eq_false_iff.mpr ht) (q.2 4 hx)
theorem sc_b : FnScope ["machine", "instruction", "after", "first", "second"] ["machine", "instruction", "after"] (defScope (top 157)) := ⟨rfl, rfl, rfl, by decide +kernel, rfl, by decide +kernel, by decide +kernel⟩
theorem ok_1Q {f_1y f_1M f_4 C_2 C_1 C_0 : Addr} {t_0 : Tok} (D : Def K "do_branch" "do_branch" (top 157) ["machine", "instruction", "after"] f_1y) (m_8 : mg "NOT_STOPPED" = some (.int 0 t_0)) (m_1l : mg "branch_holds" = some (.ref f_1M)) (G_1K : Ok P w K mg base 3 f_1M ["name", "a", "b"] spBranch) (m_4 : mg "wrap" = some (.ref f_4)) (G_4 : Ok P w K mg base 1 f_4 ["number"] spWrap) (TM : MchC K C_2) (TE : MemC K C_1) (TI : InsC K C_0) : Ok P w K mg base 4 f_1y ["machine", "instruction", "after"] (spDo C_2 C_1 C_0 5) := by
  refine D.ok sc_b spDo_len fun cdv A outer s H vs Q E hr h => ?_
  refine ⟨_, (pss_cons (ps_set (i := 3) sc_b.nd rfl (Or.inl rfl) (pe_ix ix_list (pe_fld (pv 0) rfl) (pe_fld (pv 1) rfl) (fun _ _ => rfl))) (pss_cons (ps_set (i := 4) sc_b.nd rfl (Or.inl rfl) (pe_ix ix_list (pe_fld (pv 0) rfl) (pe_fld (pv 1) rfl) (fun _ _ => rfl))) (pss_cons (ps_if (pt_val (pe_g m_1l G_1K hr (pa_cons (pe_fld (pv 1) rfl) (pa_cons (pv 3) (pa_cons (pv 4) pa_nil))))) (pss_one (ps_fld (pv 0) (pe_g m_4 G_4 hr (pa_cons (pe_op op_add (pe_fld (pv 0) rfl) (pe_fld (pv 1) rfl)) pa_nil)) rfl)) (pss_one (ps_fld (pv 0) (pv 2) rfl))) (pss_one (ps_ret (pe_glob (v := .int 0) rfl m_8 ⟨_, rfl⟩)))))), ?_⟩
  obtain ⟨a, m, p, dx, i, n, rfl, ⟨M, hp, hn, hg, he⟩, hf, q⟩ := h
  obtain ⟨g1, g2⟩ := go_even M hn
  cases i <;> try (cases hf; done)
  case branch k ra rb z =>
    obtain ⟨hk, h2, h3⟩ := hg
    have ev : z % 2 = 0 := he
    have hx : exec m (.branch k ra rb z) n = .ok (if Sg08.taken k (m.regs ra) (m.regs rb) = true then { m with pc := Sg08.wrap ((m.pc : Int) + z) } else { m with pc := (m.pc + n) % WORD }) := rfl
    refine ⟨_, rfl, a.x, _, a.dx, _, _, rfl, M.ob, TM.cl, TM.n2, mF_registers _ _ _, _, rfl, p, _, dx, _, _, rfl, hp, TI.cl, TI.n4, insF_first _, a.regs, _, _, _, rfl, rfl, SqL.of M.re, atI_nat (regsV_get h2), _, rfl, a.x, _, a.dx, _, _, rfl, M.ob, TM.cl, TM.n2, mF_registers _ _ _, _, rfl, p, _, dx, _, _, rfl, hp, TI.cl, TI.n5, insF_second _, a.regs, _, _, _, rfl, rfl, SqL.of M.re, atI_nat (regsV_get h3), _, rfl, p, _, dx, _, _, rfl, hp, TI.cl, TI.n2, insF_name _, _, rfl, _, rfl, k, _, _, rfl, hk, M.reg_lt _, M.reg_lt _, _, rfl, ?_⟩
    refine ite2 (fun e => ?_) fun e => ?_
    · rw [if_pos e] at hx
      have hw := wrap_lt ((m.pc : Int) + z)
      have hev : Sg08.wrap ((m.pc : Int) + z) % 2 = 0 := wrap_even (by have := M.wh.pc.2; omega)
      refine ⟨_, rfl, a.x, _, a.dx, _, _, rfl, M.ob, TM.cl, TM.n3, mF_pc _ _ _, _, rfl, p, _, dx, _, _, rfl, hp, TI.cl, TI.n6, insF_imm _, _, _, rfl, rfl, _, rfl, trivial, _, rfl, a.x, _, a.dx, _, rfl, M.ob, TM.cl, TM.n3, mF_len _ _ _, ?_⟩
      refine q.1 _ _ hx ?_ (Frm.updX _ _ _)
      have ew : wrapZ ((m.pc : Int) + ((Sg08.wrap z : Nat) : Int)) = _ := wrap_add m.pc z
      have M2 := M.setPc hw hev
      rw [← ew] at M2
      exact M2
    · rw [if_neg e] at hx
      refine ⟨_, rfl, _, rfl, a.x, _, a.dx, _, rfl, M.ob, TM.cl, TM.n3, mF_len _ _ _, ?_⟩
      exact q.1 _ _ hx (M.setPc g1 g2) (Frm.updX _ _ _)
theorem sc_25 : FnScope ["machine", "instruction", "after"] ["machine", "instruction", "after"] (defScope (top 158)) := ⟨rfl, rfl, rfl, by decide +kernel, rfl, by decide +kernel, by decide +kernel⟩
theorem ok_1R {f_1z f_4 C_2 C_1 C_0 : Addr} {t_0 : Tok} (D : Def K "do_jump" "do_jump" (top 158) ["machine", "instruction", "after"] f_1z) (m_8 : mg "NOT_STOPPED" = some (.int 0 t_0)) (m_4 : mg "wrap" = some (.ref f_4)) (G_4 : Ok P w K mg base 1 f_4 ["number"] spWrap) (c_0 : Cls K C_2) (G_e : OkM P w K mg base 1 C_2 "write_register" ["self", "which", "value"] (spWrite C_2 C_1 C_0)) (TM : MchC K C_2) (TE : MemC K C_1) (TI : InsC K C_0) : Ok P w K mg base 2 f_1z ["machine", "instruction", "after"] (spDo C_2 C_1 C_0 6) := by
  refine D.ok sc_25 spDo_len fun cdv A outer s H vs Q E hr h => ?_
  refine ⟨_, (pss_cons (ps_expr (pe_m (pv 0) c_0 G_e hr (pa_cons (pe_fld (pv 1) rfl) (pa_cons (pv 2) pa_nil)))) (pss_cons (ps_fld (pv 0) (pe_g m_4 G_4 hr (pa_cons (pe_op op_add (pe_fld (pv 0) rfl) (pe_fld (pv 1) rfl)) pa_nil)) rfl) (pss_one (ps_ret (pe_glob (v := .int 0) rfl m_8 ⟨_, rfl⟩))))), ?_⟩
  obtain ⟨a, m, p, dx, i, n, rfl, ⟨M, hp, hn, hg, he⟩, hf, q⟩ := h
  obtain ⟨g1, g2⟩ := go_even M hn
  cases i <;> try (cases hf; done)
  case jal rd z =>
    have ev : z % 2 = 0 := he
    have hw := wrap_lt ((m.pc : Int) + z)
    have hev : Sg08.wrap ((m.pc : Int) + z) % 2 = 0 := wrap_even (by have := M.wh.pc.2; omega)
    refine ⟨_, rfl, a.x, a.dx, _, rfl, M.ob, reason_no _ _ _, _, rfl, p, _, dx, _, _, rfl, hp, TI.cl, TI.n3, insF_target _, _, rfl, a, m, rd, _, rfl, M, hg, g1, fun H1 M1 f1 => ?_⟩
    have hp1 := f1.ins M hp
    have epc : (Sg08.set m rd ((m.pc + n) % WORD)).pc = m.pc := set_pc _ _ _
    refine ⟨_, rfl, a.x, _, a.dx, _, _, rfl, M1.ob, TM.cl, TM.n3, mF_pc _ _ _, _, rfl, p, _, dx, _, _, rfl, hp1, TI.cl, TI.n6, insF_imm _, _, _, rfl, rfl, _, rfl, trivial, _, rfl, a.x, _, a.dx, _, rfl, M1.ob, TM.cl, TM.n3, mF_len _ _ _, ?_⟩
    refine q.1 _ _ rfl ?_ (f1.trans (Frm.updX _ _ _))
    have ew : wrapZ (((Sg08.set m rd ((m.pc + n) % WORD)).pc : Int) + ((Sg08.wrap z : Nat) : Int)) = ((Sg08.wrap ((m.pc : Int) + z) : Nat) : Int) := by rw [epc]; exact wrap_add m.pc z
    have M2 := M1.setPc hw hev
    rw [jal_eq m rd ((m.pc + n) % WORD) (Sg08.wrap ((m.pc : Int) + z))]
    rw [← ew] at M2
    exact M2
theorem sc_z : FnScope ["machine", "instruction", "after", "place"] ["machine", "instruction", "after"] (defScope (top 159)) := ⟨rfl, rfl, rfl, by decide +kernel, rfl, by decide +kernel, by decide +kernel⟩
theorem ok_1S {f_1A C_2 C_1 C_0 f_p : Addr} {t_0 : Tok} (D : Def K "do_jump_to" "do_jump_to" (top 159) ["machine", "instruction", "after"] f_1A) (m_8 : mg "NOT_STOPPED" = some (.int 0 t_0)) (c_0 : Cls K C_2) (G_e : OkM P w K mg base 1 C_2 "write_register" ["self", "which", "value"] (spWrite C_2 C_1 C_0)) (m_v : mg "address_of" = some (.ref f_p)) (G_t : Ok P w K mg base 2 f_p ["machine", "instruction"] (spAddr C_2 C_1 C_0)) (TM : MchC K C_2) (TE : MemC K C_1) (TI : InsC K C_0) : Ok P w K mg base 3 f_1A ["machine", "instruction", "after"] (spDo C_2 C_1 C_0 7) := by
  refine D.ok sc_z spDo_len fun cdv A outer s H vs Q E hr h => ?_
  refine ⟨_, (pss_cons (ps_set (i := 3) sc_z.nd rfl (Or.inl rfl) (pe_g m_v G_t hr (pa_cons (pv 0) (pa_cons (pv 1) pa_nil)))) (pss_cons (ps_expr (pe_m (pv 0) c_0 G_e hr (pa_cons (pe_fld (pv 1) rfl) (pa_cons (pv 2) pa_nil)))) (pss_cons (ps_fld (pv 0) (pe_op op_sub (pv 3) (pe_op op_mod (pv 3) pe_int)) rfl) (pss_one (ps_ret (pe_glob (v := .int 0) rfl m_8 ⟨_, rfl⟩)))))), ?_⟩
  obtain ⟨a, m, p, dx, i, n, rfl, ⟨M, hp, hn, hg, he⟩, hf, q⟩ := h
  obtain ⟨g1, g2⟩ := go_even M hn
  cases i <;> try (cases hf; done)
  case jalr rd rs z =>
    obtain ⟨h1, h2⟩ := hg
    refine ⟨_, rfl, _, rfl, a, m, p, dx, _, rs, z, rfl, M, hp, rfl, rfl, h2, ?_⟩
    have hx : exec m (.jalr rd rs z) n = .ok { Sg08.set { m with pc := (m.pc + n) % WORD } rd ((m.pc + n) % WORD) with pc := Sg08.wrap ((m.regs rs : Int) + z) / 2 * 2 } := rfl
    have hw := wrap_lt ((m.regs rs : Int) + z)
    generalize Sg08.wrap ((m.regs rs : Int) + z) = B at hx hw ⊢
    refine ⟨_, rfl, a.x, a.dx, _, rfl, M.ob, reason_no _ _ _, _, rfl, p, _, dx, _, _, rfl, hp, TI.cl, TI.n3, insF_target _, _, rfl, a, m, rd, _, rfl, M, h1, g1, fun H1 M1 f1 => ?_⟩
    refine ⟨_, rfl, _, rfl, _, _, rfl, rfl, (show (0 : Int) < 2 by decide), _, _, rfl, rfl, _, rfl, a.x, _, a.dx, _, rfl, M1.ob, TM.cl, TM.n3, mF_len _ _ _, ?_⟩
    refine q.1 _ _ hx ?_ (f1.trans (Frm.updX _ _ _))
    have ew : ((B : Nat) : Int) - ((B : Nat) : Int) % 2 = ((B / 2 * 2 : Nat) : Int) := by omega
    have M2 := M1.setPc (z := B / 2 * 2) (by omega) (by omega)
    rw [jal_eq m rd ((m.pc + n) % WORD) (B / 2 * 2)]
    rw [← ew] at M2
    exact M2
theorem sc_26 : FnScope ["machine", "instruction", "after"] ["machine", "instruction", "after"] (defScope (top 160)) := ⟨rfl, rfl, rfl, by decide +kernel, rfl, by decide +kernel, by decide +kernel⟩
theorem ok_1T {f_1B C_2 C_1 C_0 : Addr} {t_0 : Tok} (D : Def K "do_nothing" "do_nothing" (top 160) ["machine", "instruction", "after"] f_1B) (m_8 : mg "NOT_STOPPED" = some (.int 0 t_0)) (TM : MchC K C_2) (TE : MemC K C_1) (TI : InsC K C_0) : Ok P w K mg base 1 f_1B ["machine", "instruction", "after"] (spDo C_2 C_1 C_0 8) := by
  refine D.ok sc_26 spDo_len fun cdv A outer s H vs Q E hr h => ?_
  refine ⟨_, (pss_cons (ps_fld (pv 0) (pv 2) rfl) (pss_one (ps_ret (pe_glob (v := .int 0) rfl m_8 ⟨_, rfl⟩)))), ?_⟩
  obtain ⟨a, m, p, dx, i, n, rfl, ⟨M, hp, hn, hg, he⟩, hf, q⟩ := h
  obtain ⟨g1, g2⟩ := go_even M hn
  cases i <;> try (cases hf; done)
  case fence =>
    exact ⟨_, rfl, _, rfl, a.x, _, a.dx, _, rfl, M.ob, TM.cl, TM.n3, mF_len _ _ _, q.1 _ _ rfl (M.setPc g1 g2) (Frm.updX _ _ _)⟩
theorem sc_27 : FnScope ["machine", "instruction", "after"] ["machine", "instruction", "after"] (defScope (top 161)) := ⟨rfl, rfl, rfl, by decide +kernel, rfl, by decide +kernel, by decide +kernel⟩
theorem ok_1U {f_w a_w C_2 C_1 C_0 : Addr} (D : Def K "do_stop" "do_stop" (top 161) ["machine", "instruction", "after"] f_w) (m_1m : mg "STOPS" = some (.ref a_w)) (k_f : KD P w K a_w kv_b) (TI : InsC K C_0) : Ok P w K mg base 1 f_w ["machine", "instruction", "after"] (spStop C_2 C_1 C_0) := by
  refine D.ok sc_27 spStop_len fun cdv A outer s H vs Q E hr h => ?_
  have hu := hu_of hr
  refine ⟨_, (pss_one (ps_ret (pe_kget hu (pe_glob (v := .ref a_w) rfl m_1m rfl) (pe_fld (pv 1) rfl) (fun _ _ => rfl)))), ?_⟩
  obtain ⟨v0, v2, p, dx, j, e, rfl, hp, hj, q⟩ := h
  refine ⟨_, rfl, p, _, dx, _, _, rfl, hp, TI.cl, TI.n2, insF_name _, _, .int ((e : Nat) : Int), rfl, .inl ⟨_, .inr j.name, k_f, rfl, ?_⟩, q⟩
  rcases hj with ⟨h1, h2⟩ | ⟨h1, h2⟩ | ⟨h1, h2⟩ <;> rw [h1, h2] <;> decide +kernel
theorem sc_28 : FnScope ["word"] ["word"] (defScope (top 163)) := ⟨rfl, rfl, rfl, by decide +kernel, rfl, by decide +kernel, by decide +kernel⟩
theorem ok_1V {f_q : Addr} (D : Def K "length_of" "length_of" (top 163) ["word"] f_q)  : Ok P w K mg base 1 f_q ["word"] (spN fun w => if w % 4 = 3 then 4 else 2) := by
  refine D.ok sc_28 spN_len fun cdv A outer s H vs Q E hr h => ?_
  refine ⟨_, (pss_one (ps_ret (pe_ifExp (pt_cmpR op_eq (pe_op op_mod (pv 0) pe_int) pe_int (nomark _)) pe_int pe_int))), ?_⟩
  obtain ⟨n, rfl, q⟩ := h
  refine ⟨_, rfl, _, _, rfl, rfl, (show (0 : Int) < 4 by decide), rfl, _, rfl, ?_⟩
  refine ite2 (fun e => ?_) fun e => ?_
  · have e' := V.int.inj (of_decide_eq_true e)
    exact qe (congrArg V.int (if_pos (by omega)).symm) q
  · have e' : ¬ ((n : Int) % 4 = 3) := fun z => e (decide_eq_true (congrArg V.int z))
    exact qe (congrArg V.int (if_neg (by omega)).symm) q
theorem sc_4 : FnScope ["machine", "memory", "pc", "half"] ["machine"] (defScope (top 164)) := ⟨rfl, rfl, rfl, by decide +kernel, rfl, by decide +kernel, by decide +kernel⟩
theorem ok_1W {f_1N C_1 f_q C_2 C_0 : Addr} (D : Def K "fetch" "fetch" (top 164) ["machine"] f_1N) (c_2 : Cls K C_1) (G_C : OkM P w K mg base 1 C_1 "load_half" ["self", "place"] (spLoadHalf C_1)) (G_g : OkM P w K mg base 1 C_1 "holds" ["self", "place", "n"] spHolds) (m_w : mg "length_of" = some (.ref f_q)) (G_u : Ok P w K mg base 1 f_q ["word"] (spN fun w => if w % 4 = 3 then 4 else 2)) (TM : MchC K C_2) (TE : MemC K C_1) : Ok P w K mg base 2 f_1N ["machine"] (spFetch C_2 C_1 C_0) := by
  refine D.ok sc_4 spFetch_len fun cdv A outer s H vs Q E hr h => ?_
  refine ⟨_, (pss_cons (ps_set (i := 1) sc_4.nd rfl (Or.inl rfl) (pe_fld (pv 0) rfl)) (pss_cons (ps_set (i := 2) sc_4.nd rfl (Or.inl rfl) (pe_fld (pv 0) rfl)) (pss_cons (ps_if (pt_not (pt_val (pe_m (pv 1) c_2 G_g hr (pa_cons (pv 2) (pa_cons pe_int pa_nil))))) (pss_one (ps_ret pe_non)) pss_nil) (pss_cons (ps_set (i := 3) sc_4.nd rfl (Or.inl rfl) (pe_m (pv 1) c_2 G_C hr (pa_cons (pv 2) pa_nil))) (pss_cons (ps_if (pt_cmpR op_eq (pe_g m_w G_u hr (pa_cons (pv 3) pa_nil)) pe_int (nomark _)) (pss_one (ps_ret (pv 3))) pss_nil) (pss_cons (ps_if (pt_not (pt_val (pe_m (pv 1) c_2 G_g hr (pa_cons (pe_op op_add (pv 2) pe_int) (pa_cons pe_int pa_nil))))) (pss_one (ps_ret pe_non)) pss_nil) (pss_one (ps_ret (pe_op op_or (pv 3) (pe_op op_shl (pe_m (pv 1) c_2 G_C hr (pa_cons (pe_op op_add (pv 2) pe_int) pa_nil)) pe_int)))))))))), ?_⟩
  obtain ⟨a, m, rfl, M, q⟩ := h
  refine ⟨_, rfl, a.x, _, a.dx, _, _, rfl, M.ob, TM.cl, TM.n1, mF_memory _ _ _, _, rfl, a.x, _, a.dx, _, _, rfl, M.ob, TM.cl, TM.n3, mF_pc _ _ _, _, rfl, a.mem, a.dm, _, rfl, M.me, holds_no _, _, rfl, _, _, _, rfl, _, rfl, ?_⟩
  generalize hc : Sg08.fits ((m.pc : Nat) : Int) 2 = c
  have ht : Sg08.there m.pc 2 = c := by rw [← hc]; exact (fits_n _).symm
  unfold fetchV at q
  cases c with
  | true =>
    rw [if_pos ht] at q
    have h1 : m.pc + 2 ≤ 65536 := of_decide_eq_true ht
    refine notT rfl ⟨_, rfl, a.mem, a.dm, _, rfl, M.me, lh_no _, _, rfl, a.mem, a.dm, a.cells, _, m.mem, rfl, M.me, M.ce, h1, ?_⟩
    refine ⟨_, rfl, _, rfl, rfl, _, rfl, ?_⟩
    refine ite2 (fun e => ?_) fun e => ?_
    · have e' : ¬ Sg08.number m.mem m.pc 2 % 4 = 3 := fun z => by
        have e2 : (if Sg08.number m.mem m.pc 2 % 4 = 3 then (4 : Int) else 2) = 2 := V.int.inj (of_decide_eq_true e)
        rw [if_pos z] at e2
        exact absurd e2 (by decide)
      rw [if_neg e'] at q
      exact ⟨_, rfl, q⟩
    · have e' : Sg08.number m.mem m.pc 2 % 4 = 3 := by
        by_cases z : Sg08.number m.mem m.pc 2 % 4 = 3
        · exact z
        · exact absurd (decide_eq_true (congrArg V.int (if_neg z))) e
      rw [if_pos e'] at q
      refine ⟨_, rfl, a.mem, a.dm, _, rfl, M.me, holds_no _, _, rfl, _, _, rfl, rfl, _, _, _, rfl, _, rfl, ?_⟩
      generalize hd : Sg08.fits (((m.pc : Nat) : Int) + 2) 2 = d
      have h4 : Sg08.there m.pc 4 = d := by rw [← hd]; exact (fits_4 _).symm
      cases d with
      | true =>
        rw [if_pos h4] at q
        have h2 : m.pc + 4 ≤ 65536 := of_decide_eq_true h4
        refine notT rfl ⟨_, rfl, _, rfl, a.mem, a.dm, _, rfl, M.me, lh_no _, _, rfl, _, _, rfl, rfl, a.mem, a.dm, a.cells, m.pc + 2, m.mem, rfl, M.me, M.ce, by omega, ?_⟩
        have hh := number_lt m.mem (m.pc + 2) 2
        exact ⟨_, _, rfl, rfl, ⟨by decide, by decide, by omega⟩, _, _, rfl, rfl, qe (congrArg V.int (word_turn m.mem m.pc)) q⟩
      | false =>
        rw [if_neg (by rw [h4]; exact Bool.false_ne_true)] at q
        exact notF rfl q
  | false =>
    rw [if_neg (by rw [ht]; exact Bool.false_ne_true)] at q
    exact notF rfl q
theorem sc_29 : FnScope ["word"] ["word"] (defScope (top 165)) := ⟨rfl, rfl, rfl, by decide +kernel, rfl, by decide +kernel, by decide +kernel⟩
theorem ok_1X {f_1O f_1G C_0 f_q f_1L : Addr} (D : Def K "read_word" "read_word" (top 165) ["word"] f_1O) (m_1n : mg "read_long" = some (.ref f_1G)) (G_1L : Ok P w K mg base 7 f_1G ["word"] (spRd C_0 (fun _ => True) fun w => insO (Sg08.long w))) (m_w : mg "length_of" = some (.ref f_q)) (G_u : Ok P w K mg base 1 f_q ["word"] (spN fun w => if w % 4 = 3 then 4 else 2)) (m_1o : mg "read_short" = some (.ref f_1L)) (G_1M : Ok P w K mg base 7 f_1L ["half"] (spRd C_0 (fun _ => True) fun w => insO (Sg08.short w))) : Ok P w K mg base 8 f_1O ["word"] (spRd C_0 (fun _ => True) fun w => insO (decW w)) := by
  refine D.ok sc_29 spRd_len fun cdv A outer s H vs Q E hr h => ?_
  refine ⟨_, (pss_cons (ps_if (pt_cmpR op_eq (pe_g m_w G_u hr (pa_cons (pv 0) pa_nil)) pe_int (nomark _)) (pss_one (ps_ret (pe_g m_1o G_1M hr (pa_cons (pv 0) pa_nil)))) pss_nil) (pss_one (ps_ret (pe_g m_1n G_1L hr (pa_cons (pv 0) pa_nil))))), ?_⟩
  obtain ⟨n, rfl, -, q⟩ := h
  replace q : RetI C_0 H Q (insO (decW n)) := q
  refine ⟨_, rfl, n, rfl, rfl, _, rfl, ?_⟩
  unfold decW at q
  refine ite2 (fun e => ?_) fun e => ?_
  · have e' : ¬ n % 4 = 3 := fun z => by
      have e2 : (if n % 4 = 3 then (4 : Int) else 2) = 2 := V.int.inj (of_decide_eq_true e)
      rw [if_pos z] at e2
      exact absurd e2 (by decide)
    rw [if_neg e'] at q
    exact ⟨_, rfl, n, rfl, trivial, q⟩
  · have e' : n % 4 = 3 := by
      by_cases z : n % 4 = 3
      · exact z
      · exact absurd (decide_eq_true (congrArg V.int (if_neg z))) e
    rw [if_pos e'] at q
    exact ⟨_, rfl, n, rfl, trivial, q⟩
end
end Sp8
end
section
namespace Sp8
open PySem PySem.Spec PyProof.Rows L2
open Sg08 (Alu WORD Instr Machine)
theorem fetch_cases (m : Machine) : (fetchV m = .non ∧ Sg08.fetch m = .error 4) ∨
    ∃ w n : Nat, fetchV m = .int ((w : Nat) : Int) ∧ n = (if w % 4 = 3 then 4 else 2) ∧ Sg08.fetch m = (match decW w with | some i => .ok (i, n) | none => .error 3) := by
  refine (Bool.eq_false_or_eq_true (Sg08.there m.pc 2)).elim (fun h2 => ?_) fun h2 => ?_
  · have f1 : Sg08.fetch m = (if Sg08.number m.mem m.pc 2 % 4 ≠ 3 then (match Sg08.short (Sg08.number m.mem m.pc 2) with | some i => .ok (i, 2) | none => .error 3) else if Sg08.there m.pc 4 = false then .error 4 else match Sg08.long (Sg08.number m.mem m.pc 4) with | some i => .ok (i, 4) | none => .error 3) := by
      unfold Sg08.fetch; rw [if_neg (by rw [h2]; exact Bool.noConfusion)]; rfl
    have v1 : fetchV m = (if Sg08.number m.mem m.pc 2 % 4 = 3 then (if Sg08.there m.pc 4 = true then .int ((Sg08.number m.mem m.pc 4 : Nat) : Int) else .non) else .int ((Sg08.number m.mem m.pc 2 : Nat) : Int)) := by
      unfold fetchV; rw [if_pos h2]
    by_cases e : Sg08.number m.mem m.pc 2 % 4 = 3
    · rw [if_neg (fun z => z e)] at f1
      rw [if_pos e] at v1
      refine (Bool.eq_false_or_eq_true (Sg08.there m.pc 4)).elim (fun h4 => ?_) fun h4 => ?_
      · rw [if_neg (by rw [h4]; exact Bool.noConfusion)] at f1
        rw [if_pos h4] at v1
        have e4 : Sg08.number m.mem m.pc 4 % 4 = 3 := by rw [number_2] at e; rw [number_4]; omega
        refine .inr ⟨Sg08.number m.mem m.pc 4, 4, v1, by rw [if_pos e4], ?_⟩
        rw [f1]
        unfold decW
        rw [if_pos e4]
      · rw [if_pos h4] at f1
        rw [if_neg (by rw [h4]; exact Bool.noConfusion)] at v1
        exact .inl ⟨v1, f1⟩
    · rw [if_pos e] at f1
      rw [if_neg e] at v1
      refine .inr ⟨Sg08.number m.mem m.pc 2, 2, v1, by rw [if_neg e], ?_⟩
      rw [f1]
      unfold decW
      rw [if_neg e]
  · exact .inl ⟨by unfold fetchV; rw [if_neg (by rw [h2]; exact Bool.noConfusion)], by unfold Sg08.fetch; rw [if_pos h2]⟩
theorem regs_dec {w : Nat} {i : Instr} (h : decW w = some i) : regsIn i := by
  unfold decW at h
  split at h
  · exact regs_long h
  · exact regs_short h
theorem even_dec {w : Nat} {i : Instr} (h : decW w = some i) : evenI i := by
  unfold decW at h
  split at h
  · exact even_long h
  · exact even_short h
def spInstrOf (CM CE CI : Addr) : Sp := fun vs H Q _ => ∃ (a : Ad) (m : Machine) (w : Nat), vs = [.ref a.x, .int ((w : Nat) : Int)] ∧ MAt CM CE CI H a m ∧
  ∀ (p dx : Addr) (H' : Hp), MAt CM CE CI H' a m → Frm a H H' → H' p = some (.ins CI dx (insF (insO (decW w)))) → Q (.ref p) H'
theorem spInstrOf_len {CM CE CI : Addr} {x y : Str} : ∀ vs H Q E, spInstrOf CM CE CI vs H Q E → vs.length = [x, y].length := fun vs H Q E h => by obtain ⟨_, _, _, rfl, _⟩ := h; rfl
def spNext (CM CE CI : Addr) : Sp := fun vs H Q _ => ∃ (a : Ad) (m : Machine), vs = [.ref a.x] ∧ MAt CM CE CI H a m ∧
  (∀ H' m', Sg08.step m = .ok m' → MAt CM CE CI H' a m' → Frm a H H' → Q (.int 0) H') ∧ ∀ (H' : Hp) (e : Nat), Sg08.step m = .error e → MAt CM CE CI H' a m → Frm a H H' → Q (.int ((e : Nat) : Int)) H'
theorem spNext_len {CM CE CI : Addr} {x : Str} : ∀ vs H Q E, spNext CM CE CI vs H Q E → vs.length = [x].length := fun vs H Q E h => by obtain ⟨_, _, rfl, _⟩ := h; rfl
theorem after_eq (pc w n : Nat) (hn : n = (if w % 4 = 3 then 4 else 2)) : wrapZ ((pc : Int) + (if w % 4 = 3 then 4 else 2 : Int)) = (((pc + n) % WORD : Nat) : Int) := by
  have h := wrapZ_nat (pc + n)
  rw [Int.natCast_add] at h
  rw [← h]
  congr 2
  rw [hn]
  split <;> rfl
def RetA (CM CE CI : Addr) (a : Ad) (H : Hp) (Q : VK) (m' : Machine) (ys : List Int) : Prop :=
  ∀ (p : Addr) (H' : Hp), H p = none → MAt CM CE CI H' a m' → Frm a H H' → H' p = some (.lst (ys.map V.int)) → Q (.ref p) H'
theorem RetA.new {CM CE CI : Addr} {a : Ad} {H H1 : Hp} {Q : VK} {m' : Machine} {ys : List Int} {p : Addr} (k : RetA CM CE CI a H Q m' ys) (M : MAt CM CE CI H1 a m') (f : Frm a H H1) (fr : ∀ b, H1 b = none → H b = none) (hp : H1 p = none) :
    Q (.ref p) (upd H1 p (.lst (ys.map V.int))) := by
  have s : Same H1 (upd H1 p (.lst (ys.map V.int))) := fun b o e => by rw [upd_ne (ne_of_none e hp)]; exact e
  exact k p _ (fr p hp) (M.same s) (f.trans (Frm.same s)) upd_same
def Old (H H' : Hp) : Prop := ∀ b, H' b = none → H b = none
def spM1 (CM CE CI : Addr) (c : Int → List (List Int)) (pre : Int → Prop) : Sp := fun vs H Q _ => ∃ (a : Ad) (m : Machine) (z : Int), vs = [.ref a.x, .int z] ∧ MAt CM CE CI H a m ∧ pre z ∧ RetA CM CE CI a H Q (Sg08Neutral.step m (c z)).1 (Sg08Neutral.step m (c z)).2
theorem spM1_len {CM CE CI : Addr} {c : Int → List (List Int)} {pre : Int → Prop} {x y : Str} : ∀ vs H Q E, spM1 CM CE CI c pre vs H Q E → vs.length = [x, y].length := fun vs H Q E h => by obtain ⟨_, _, _, rfl, _⟩ := h; rfl
def spM2 (CM CE CI : Addr) (c : Int → Int → List (List Int)) (pre : Int → Int → Prop) : Sp := fun vs H Q _ => ∃ (a : Ad) (m : Machine) (y z : Int), vs = [.ref a.x, .int y, .int z] ∧ MAt CM CE CI H a m ∧ pre y z ∧ RetA CM CE CI a H Q (Sg08Neutral.step m (c y z)).1 (Sg08Neutral.step m (c y z)).2
theorem spM2_len {CM CE CI : Addr} {c : Int → Int → List (List Int)} {pre : Int → Int → Prop} {x y z : Str} : ∀ vs H Q E, spM2 CM CE CI c pre vs H Q E → vs.length = [x, y, z].length := fun vs H Q E h => by obtain ⟨_, _, _, _, rfl, _⟩ := h; rfl
def spM0 (CM CE CI : Addr) (c : List (List Int)) : Sp := fun vs H Q _ => ∃ (a : Ad) (m : Machine), vs = [.ref a.x] ∧ MAt CM CE CI H a m ∧ RetA CM CE CI a H Q (Sg08Neutral.step m c).1 (Sg08Neutral.step m c).2
theorem spM0_len {CM CE CI : Addr} {c : List (List Int)} {x : Str} : ∀ vs H Q E, spM0 CM CE CI c vs H Q E → vs.length = [x].length := fun vs H Q E h => by obtain ⟨_, _, rfl, _⟩ := h; rfl
def spPut (K : PySem.W.Frag) (CM CE CI : Addr) : Sp := fun vs H Q _ => ∃ (a : Ad) (m : Machine) (z : Int) (r : Addr) (b : List Int), vs = [.ref a.x, .int z, .ref r] ∧ MAt CM CE CI H a m ∧ H r = some (.lst (b.map V.int)) ∧ r ≠ a.cells ∧ r ≠ a.x ∧ r ≠ a.regs ∧ r ≠ a.known ∧ (∀ x ∈ b, 0 ≤ x ∧ x < 256) ∧
  RetA CM CE CI a H Q (Sg08Neutral.step m [[1, z], b]).1 (Sg08Neutral.step m [[1, z], b]).2
theorem spPut_len {K : PySem.W.Frag} {CM CE CI : Addr} {x y z : Str} : ∀ vs H Q E, spPut K CM CE CI vs H Q E → vs.length = [x, y, z].length := fun vs H Q E h => by obtain ⟨_, _, _, _, _, rfl, _⟩ := h; rfl
theorem fits_bool (y z : Int) : Sg08.fits y z = true ↔ (0 ≤ y ∧ 0 ≤ z ∧ y + z ≤ 65536) := by
  unfold Sg08.fits; simp only [Bool.and_eq_true, decide_eq_true_eq]
theorem take_bytes (m : Nat → UInt8) (p n : Nat) (h : p + n ≤ 65536) : ((cellsV m).drop p).take n = (((List.range n).map fun i => m (p + i)).map fun (b : UInt8) => ((b.toNat : Nat) : Int)).map V.int := by
  apply List.ext_getElem?
  intro i
  rw [List.map_map, List.map_map, List.getElem?_map]
  by_cases hi : i < n
  · rw [List.getElem?_take_of_lt hi, List.getElem?_drop, cellsV_get (by omega), List.getElem?_range hi]; rfl
  · rw [List.getElem?_eq_none (by rw [List.length_take]; omega), List.getElem?_eq_none (by rw [List.length_range]; omega)]; rfl
theorem step_why (m : Machine) (x : Nat) : Sg08.step { m with why := x } = match Sg08.step m with | .error e => .error e | .ok n => .ok { n with why := x } := by
  rw [step_exec, step_exec]
  have hf : Sg08.fetch { m with why := x } = Sg08.fetch m := rfl
  rw [hf]
  cases Sg08.fetch m with
  | error e => rfl
  | ok y =>
    obtain ⟨i, n⟩ := y
    cases i with
    | load k rd rs z =>
      simp only [exec, Sg08.set]
      split
      · split <;> rfl
      · rfl
    | store k rs b z =>
      simp only [exec]
      split <;> rfl
    | branch k a b z =>
      simp only [exec]
      split <;> rfl
    | imm o rd rs z => simp only [exec, Sg08.set]; split <;> rfl
    | reg o rd a b => simp only [exec, Sg08.set]; split <;> rfl
    | lui rd z => simp only [exec, Sg08.set]; split <;> rfl
    | auipc rd z => simp only [exec, Sg08.set]; split <;> rfl
    | jal rd z => simp only [exec, Sg08.set]; split <;> rfl
    | jalr rd rs z => simp only [exec, Sg08.set]; split <;> rfl
    | fence => rfl
    | ecall => rfl
    | ebreak => rfl
theorem step_err {m : Machine} {e : Nat} (h : Sg08.step m = .error e) : e = 1 ∨ e = 2 ∨ e = 3 ∨ e = 4 := by
  rw [step_exec] at h
  cases q : Sg08.fetch m with
  | error e' =>
    rw [q] at h
    have : e' = e := by injection h
    subst this
    rcases fetch_cases m with ⟨_, f⟩ | ⟨w, n, _, _, f⟩
    · rw [f] at q
      have : 4 = e' := by injection q
      omega
    · rw [f] at q
      cases d : decW w with
      | none =>
        rw [d] at q
        have : 3 = e' := by injection q
        omega
      | some i =>
        rw [d] at q
        cases q
  | ok y =>
    rw [q] at h
    obtain ⟨i, n⟩ := y
    cases i <;> simp only [exec] at h <;> repeat' split at h
    all_goals first | (cases h; done) | (cases h; omega)
theorem itT {c : Bool} {A B : Prop} (hc : c = true) (h : A) : if c = true then A else B := by rw [if_pos hc]; exact h
theorem itF {c : Bool} {A B : Prop} (hc : c = false) (h : B) : if c = true then A else B := by rw [if_neg (by rw [hc]; exact Bool.false_ne_true)]; exact h
end Sp8
end
section
namespace Sp8
open PySem PySem.Spec PyProof.Rows L2
open Sg08 (Alu WORD Instr Machine)
section
variable {X : Cx}
theorem call_len_d : CallR X (.builtin "len") (fun xs H Q => ∃ p kvs, xs = [.ref p] ∧ H p = some (.dK kvs) ∧ Q (.int ((kvs.length : Nat) : Int)) H) := by
  intro pins s σ H xs us Q I r h
  obtain ⟨p, kvs, rfl, e, q⟩ := h
  obtain ⟨u, rfl, rx⟩ := vals1 r
  cases rx
  exact d_len I (.inl e) fun t s' I' => ⟨.int ((kvs.length : Nat) : Int), H, I', ⟨t, rfl⟩, q⟩
def rDClear : V → List V → Hp → VK → Prop := fun x vs H Q => ∃ a kvs, x = .ref a ∧ vs = [] ∧ H a = some (.dK kvs) ∧ Q .non (upd H a (.dK []))
theorem mt_dclear : MtM X "dict.clear" rDClear := by
  intro pins s σ H x vs v us Q I rx rv h
  obtain ⟨a, kvs, rfl, rfl, e, q⟩ := h
  cases rx
  have hus := rv.zero
  subst hus
  exact d_clear I e fun s' I' => ⟨.non, _, I', rfl, q⟩
end
section
variable {CM CE CI : Addr} {H H' H1 : Hp} {a : Ad} {m m' : Machine} {p : Addr} {o : HO} {Q : VK} {ys : List Int}
theorem same_laid (hp : H p = none) : Same H (upd H p o) := fun b u e => by rw [upd_ne (ne_of_none e hp)]; exact e
theorem MAt.laid (M : MAt CM CE CI H a m) (hp : H p = none) : MAt CM CE CI (upd H p o) a m := M.same (same_laid hp)
theorem old_of (M : MAt CM CE CI H' a m') (f : Frm a H H') : Old H H' := fun b h => by
  cases e : H b with
  | none => rfl
  | some u =>
    obtain ⟨kvs, ek, _⟩ := M.kn
    have n1 : b ≠ a.x := fun z => by rw [z, M.ob] at h; cases h
    have n2 : b ≠ a.cells := fun z => by rw [z, M.ce] at h; cases h
    have n3 : b ≠ a.regs := fun z => by rw [z, M.re] at h; cases h
    have n4 : b ≠ a.known := fun z => by rw [z, ek] at h; cases h
    rw [f b u e n1 n2 n3 n4] at h
    cases h
theorem MAt.klen {kvs : List (Key × V)} (M : MAt CM CE CI H a m) (e : H a.known = some (.dK kvs)) : kvs.length ≤ 32768 := by
  obtain ⟨kvs', e', f⟩ := M.kn
  rw [e] at e'
  cases e'
  cases kvs with
  | nil => exact Nat.zero_le _
  | cons p r => exact let ⟨_, _, _, h1, _⟩ := f p (List.mem_cons_self ..); h1.2
theorem valV_mem {kvs : List (Key × V)} {k : Key} {v : V} (h : valV kvs k = some v) : ∃ p ∈ kvs, p.1 = k ∧ p.2 = v := by
  unfold valV at h
  cases e : kvs.find? fun kv => decide (kv.1 = k) with
  | none => rw [e] at h; cases h
  | some p =>
    rw [e] at h
    exact ⟨p, List.mem_of_find?_eq_some e, (by have z := List.find?_some e; exact of_decide_eq_true z), Option.some.inj h⟩
theorem MAt.kget {kvs : List (Key × V)} {w : Nat} {v : V} (M : MAt CM CE CI H a m) (e : H a.known = some (.dK kvs)) (hv : valV kvs (.inl ((w : Nat) : Int)) = some v) :
    ∃ q dx : Addr, v = .ref q ∧ H q = some (.ins CI dx (insF (insO (decW w)))) := by
  obtain ⟨kvs', e', f⟩ := M.kn
  rw [e] at e'
  cases e'
  obtain ⟨p, hp, h1, h2⟩ := valV_mem hv
  obtain ⟨w', q, dx, g1, g2, g3⟩ := f p hp
  have ew : w' = w := by
    have z := g1.1.symm.trans h1
    injection z with z
    exact Int.ofNat.inj z
  subst ew
  exact ⟨q, dx, h2.symm.trans g2, g3⟩
theorem MAt.knew {kvs : List (Key × V)} (M : MAt CM CE CI H a m) (f : ∀ p ∈ kvs, ∃ (w : Nat) (q dx : Addr), (p.1 = .inl ((w : Nat) : Int) ∧ kvs.length ≤ 32768) ∧ p.2 = .ref q ∧ H q = some (.ins CI dx (insF (insO (decW w))))) :
    MAt CM CE CI (upd H a.known (.dK kvs)) a m := by
  refine ⟨by rw [upd_ne M.xk]; exact M.ob, by rw [upd_ne M.mkn]; exact M.me, by rw [upd_ne M.ck]; exact M.ce, by rw [upd_ne M.rk]; exact M.re, ⟨kvs, upd_same, fun p hp => ?_⟩, M.wh⟩
  obtain ⟨w, q, dx, h1, h2, h3⟩ := f p hp
  exact ⟨w, q, dx, h1, h2, by rw [upd_ne (M.ni h3).2.2.2.2]; exact h3⟩
theorem MAt.kput {kvs : List (Key × V)} {w : Nat} {q dx : Addr} (M : MAt CM CE CI H a m) (e : H a.known = some (.dK kvs)) (hl : kvs.length < 32768) (hn : valV kvs (.inl ((w : Nat) : Int)) = none) (hq : H q = some (.ins CI dx (insF (insO (decW w))))) :
    MAt CM CE CI (upd H a.known (.dK (putK kvs (.inl ((w : Nat) : Int)) (.ref q)))) a m := by
  obtain ⟨kvs', e', f⟩ := M.kn
  rw [e] at e'
  cases e'
  rw [putK_new _ hn]
  have hs : (kvs ++ [((.inl ((w : Nat) : Int) : Key), V.ref q)]).length ≤ 32768 := by rw [List.length_append, List.length_singleton]; exact hl
  refine M.knew fun p hp => ?_
  rcases List.mem_append.mp hp with h | h
  · obtain ⟨w, q, dx, h1, h2, h3⟩ := f p h
    exact ⟨w, q, dx, ⟨h1.1, hs⟩, h2, h3⟩
  · obtain rfl := List.mem_singleton.mp h
    exact ⟨w, q, dx, ⟨rfl, hs⟩, rfl, hq⟩
theorem Frm.updK (a : Ad) (H : Hp) (o : HO) : Frm a H (upd H a.known o) := fun b u e _ _ _ h => by rw [upd_ne h]; exact e
theorem RetA.ret (k : RetA CM CE CI a H Q m' ys) (M : MAt CM CE CI H1 a m') (f : Frm a H H1) (hp : H1 p = none) : Q (.ref p) (upd H1 p (.lst (ys.map V.int))) := k.new M f (old_of M f) hp
end
theorem st_set (m : Machine) (y z : Int) : Sg08Neutral.step m [[3, y, z]] = if Sg08.within y 31 = true then (Sg08.set m y.toNat z.toNat, [0]) else if y = 32 ∧ z.toNat % 2 = 0 then ({ m with pc := z.toNat }, [0]) else (m, [-1]) := by
  simp only [Sg08Neutral.step, Sg08Neutral.callOf, Sg08.does]
  split
  · rfl
  · split <;> rfl
theorem st_get (m : Machine) (y : Int) : Sg08Neutral.step m [[4, y]] = if Sg08.within y 31 = true then (m, [0, ((m.regs y.toNat : Nat) : Int)]) else if y = 32 then (m, [0, ((m.pc : Nat) : Int)]) else (m, [-1]) := by
  simp only [Sg08Neutral.step, Sg08Neutral.callOf, Sg08.does]
  split
  · rfl
  · split <;> rfl
theorem st_run (m : Machine) (y : Int) : Sg08Neutral.step m [[5, y]] = if Sg08.within y Sg08.MOST = true then ((Sg08.run y.toNat m).2, [(((Sg08.run y.toNat m).1 : Nat) : Int)]) else (m, [-1]) := by
  simp only [Sg08Neutral.step, Sg08Neutral.callOf, Sg08.does]
  split <;> rfl
theorem st_why (m : Machine) : Sg08Neutral.step m [[6]] = (m, [((m.why : Nat) : Int)]) := rfl
theorem st_put (m : Machine) (y : Int) (b : List Int) : Sg08Neutral.step m [[1, y], b] = if Sg08.fits y (b.length : Int) = true then (Sg08.putBytes m y.toNat (Sg08Neutral.bytesOf b), [0]) else (m, [-1]) := by
  simp only [Sg08Neutral.step, Sg08Neutral.callOf, Sg08.does]
  split <;> rfl
theorem st_take (m : Machine) (y z : Int) : Sg08Neutral.step m [[2, y, z]] = if Sg08.fits y z = true then (m, 0 :: (((List.range z.toNat).map fun i => m.mem (y.toNat + i)).map fun (b : UInt8) => ((b.toNat : Nat) : Int))) else (m, [-1]) := by
  simp only [Sg08Neutral.step, Sg08Neutral.callOf, Sg08.does]
  split <;> rfl
def spSetPc (CM CE CI : Addr) : Sp := fun vs H Q _ => ∃ (a : Ad) (m : Machine) (v : Nat), vs = [.ref a.x, .int ((v : Nat) : Int)] ∧ MAt CM CE CI H a m ∧ v < WORD ∧ (v % 2 = 0 → RetA CM CE CI a H Q { m with pc := v } [0]) ∧ (¬ v % 2 = 0 → RetA CM CE CI a H Q m [-1])
theorem spSetPc_len {CM CE CI : Addr} {x y : Str} : ∀ vs H Q E, spSetPc CM CE CI vs H Q E → vs.length = [x, y].length := fun vs H Q E h => by obtain ⟨_, _, _, rfl, _⟩ := h; rfl
theorem sr_no (c : Addr) : (memF c).lookup ("store_row" : Str) = none := memF_no _ (by decide +kernel)
theorem lr_no (c : Addr) : (memF c).lookup ("load_row" : Str) = none := memF_no _ (by decide +kernel)
theorem sp_no (a : Ad) (pc why : Int) : (mF a pc why).lookup ("set_pc" : Str) = none := mF_no _ _ _ (by decide +kernel) (by decide +kernel) (by decide +kernel) (by decide +kernel) (by decide +kernel)
theorem within31 (y : Int) : Sg08.within y 31 = true ↔ (0 ≤ y ∧ y < 32) := by
  unfold Sg08.within; simp only [Bool.and_eq_true, decide_eq_true_eq]; omega
theorem within40 (y : Int) : Sg08.within y Sg08.MOST = true ↔ (0 ≤ y ∧ y ≤ 1099511627776) := by
  unfold Sg08.within Sg08.MOST; simp only [Bool.and_eq_true, decide_eq_true_eq]
  rw [show (2 : Int) ^ 40 = 1099511627776 by decide]
theorem iter_next {k : Nat} {m n n' : Machine} (h : iter k m = some n) (hs : Sg08.step n = .ok n') : iter (k + 1) m = some n' := by
  rw [iter_snoc k m n h, hs]
end Sp8
end
section
namespace Sp8
open PySem PySem.Spec PyProof.Rows L2
open Sg08 (Alu WORD Machine Instr)
section
variable {P : Program} {w : World} {K : PySem.W.Frag} {mg : Str → Option Value} {base : Heap}
theorem sc_A : FnScope ["machine", "word", "known_words"] ["machine", "word"] (defScope (top 166)) := ⟨rfl, rfl, rfl, by decide +kernel, rfl, by decide +kernel, by decide +kernel⟩
theorem ok_1Y {f_1P f_1O C_0 C_2 C_1 : Addr} {t_f : Tok} (D : Def K "instruction_of" "instruction_of" (top 166) ["machine", "word"] f_1P) (m_1p : mg "read_word" = some (.ref f_1O)) (G_1N : Ok P w K mg base 8 f_1O ["word"] (spRd C_0 (fun _ => True) fun w => insO (decW w))) (n_0 : mg "len" = none) (m_1q : mg "MOST_KNOWN_WORDS" = some (.int 32768 t_f)) (TM : MchC K C_2) : Ok P w K mg base 9 f_1P ["machine", "word"] (spInstrOf C_2 C_1 C_0) := by
  refine D.ok sc_A spInstrOf_len fun cdv A outer s H vs Q E hr h => ?_
  have hu := hu_of hr
  refine ⟨_, (pss_cons (ps_set (i := 2) sc_A.nd rfl (Or.inl rfl) (pe_fld (pv 0) rfl)) (pss_cons (ps_if (pt_cmp (pc_dnotin hu (pv 1) (pv 2)) rfl) (pss_cons (ps_if (pt_cmpR op_ge (pe_callB call_len_d rfl n_0 PySem.boot_len (pa_cons (pv 2) pa_nil)) (pe_glob (v := .int 32768) rfl m_1q ⟨_, rfl⟩) (nomark _)) (pss_one (ps_expr (pe_bm0 PySem.F.plainAttrs_dict PySem.F.slot_dict_clear PySem.F.type_dict_clear mt_dclear (pv 2)))) pss_nil) (pss_one (ps_dput hu (pv 2) (pv 1) (pe_g m_1p G_1N hr (pa_cons (pv 1) pa_nil)) rfl))) pss_nil) (pss_one (ps_ret (pe_dget hu (pv 2) (pv 1) (fun _ _ => rfl)))))), ?_⟩
  obtain ⟨a, m, n, rfl, M, q⟩ := h
  obtain ⟨kvs, ek, _⟩ := M.kn
  refine ⟨_, rfl, a.x, _, a.dx, _, _, rfl, M.ob, TM.cl, TM.n5, mF_known _ _ _, ?_⟩
  refine ⟨_, rfl, _, rfl, a.known, _, rfl, DGet.k (k := .inl ((n : Nat) : Int)) ek, ?_⟩
  have hl := M.klen ek
  generalize hv : valV kvs (.inl ((n : Nat) : Int)) = v
  cases v with
  | some v =>
    obtain ⟨p, dx, rfl, hp⟩ := M.kget ek hv
    exact ⟨_, rfl, itF rfl ⟨_, rfl, _, rfl, a.known, _, rfl, .inl ⟨kvs, .inl ((n : Nat) : Int), .inl ek, rfl, hv.symm⟩, q p dx H M (Frm.refl _ _) hp⟩⟩
  | none =>
    have put : ∀ (H0 : Hp) (k0 : List (Key × V)), MAt C_2 C_1 C_0 H0 a m → Frm a H H0 → H0 a.known = some (.dK k0) → k0.length < 32768 → valV k0 (.inl ((n : Nat) : Int)) = none →
        ∀ (p : Addr) (H1 : Hp), H0 p = none → Same H0 H1 → (∃ dx, H1 p = some (.ins C_0 dx (insF (insO (decW n))))) → 
        ∃ H2, DPut H1 a.known (.int ((n : Nat) : Int)) (.ref p) H2 ∧ ∃ v, DGet H2 a.known (.int ((n : Nat) : Int)) (some v) ∧ Q v H2 := fun H0 k0 M0 f0 e0 l0 v0 p H1 hp s1 ⟨dx, h1⟩ => by
      have e1 := s1 _ _ e0
      have M1 := M0.same s1
      have l1 : k0.length < sizeLine := Nat.lt_of_lt_of_le l0 (by rw [sizeLine_eq]; decide)
      refine ⟨_, DPut.k (k := .inl ((n : Nat) : Int)) e1 l1, .ref p, .inl ⟨_, .inl ((n : Nat) : Int), .inl upd_same, rfl, ?_⟩, ?_⟩
      · rw [valV_put, if_pos rfl]
      · exact q p dx _ (M1.kput e1 l0 v0 h1) ((f0.trans (Frm.same s1)).trans (Frm.updK _ _ _)) (by rw [upd_ne (M1.ni h1).2.2.2.2]; exact h1)
    refine ⟨_, rfl, itT rfl ⟨_, rfl, a.known, kvs, rfl, ek, _, _, rfl, rfl, _, rfl, ?_⟩⟩
    refine ite2 (fun e => ?_) fun e => ?_
    · refine ⟨_, rfl, .inr (.inr (.inl ⟨rfl, .inl ⟨kvs, ek⟩⟩)), a.known, kvs, rfl, rfl, ek, _, rfl, n, rfl, trivial, fun p H1 hp s1 hx => ?_⟩
      obtain ⟨H2, d, v, g, r⟩ := put _ [] (M.knew fun p hp => absurd hp List.not_mem_nil) (Frm.updK _ _ _) upd_same (by decide) rfl p H1 hp s1 hx
      exact ⟨_, rfl, _, rfl, a.known, H2, rfl, d, _, rfl, _, rfl, a.known, v, rfl, g, r⟩
    · refine ⟨_, rfl, n, rfl, trivial, fun p H1 hp s1 hx => ?_⟩
      have hl' : ¬ (32768 : Int) ≤ ((kvs.length : Nat) : Int) := fun z => e (decide_eq_true z)
      obtain ⟨H2, d, v, g, r⟩ := put H kvs M (Frm.refl _ _) ek (by omega) hv p H1 hp s1 hx
      exact ⟨_, rfl, _, rfl, a.known, H2, rfl, d, _, rfl, _, rfl, a.known, v, rfl, g, r⟩
theorem sc_5 : FnScope ["machine", "word", "instruction", "after"] ["machine"] (defScope (top 167)) := ⟨rfl, rfl, rfl, by decide +kernel, rfl, by decide +kernel, by decide +kernel⟩
theorem ok_1Z {f_1Q a_x f_4 f_q f_1P C_2 C_1 C_0 f_1N f_1u f_13 f_1v f_1w f_1x f_1y f_1z f_1A f_1B f_w : Addr} {t_9 : Tok} (D : Def K "do_next" "do_next" (top 167) ["machine"] f_1Q) (m_1r : mg "DOERS" = some (.ref a_x)) (m_4 : mg "wrap" = some (.ref f_4)) (G_4 : Ok P w K mg base 1 f_4 ["number"] spWrap) (m_w : mg "length_of" = some (.ref f_q)) (G_u : Ok P w K mg base 1 f_q ["word"] (spN fun w => if w % 4 = 3 then 4 else 2)) (m_1s : mg "instruction_of" = some (.ref f_1P)) (G_1O : Ok P w K mg base 9 f_1P ["machine", "word"] (spInstrOf C_2 C_1 C_0)) (m_u : mg "NOT_IN_MEMORY" = some (.int 4 t_9)) (m_1t : mg "fetch" = some (.ref f_1N)) (G_1P : Ok P w K mg base 2 f_1N ["machine"] (spFetch C_2 C_1 C_0)) (k_3 : KD P w K a_x [(.inr "registers", .ref f_1u), (.inr "immediate", .ref f_13), (.inr "pc", .ref f_1v), (.inr "load", .ref f_1w), (.inr "store", .ref f_1x), (.inr "branch", .ref f_1y), (.inr "jump", .ref f_1z), (.inr "jump to", .ref f_1A), (.inr "nothing", .ref f_1B), (.inr "stop", .ref f_w)]) (G_B : Ok P w K mg base 1 f_w ["machine", "instruction", "after"] (spStop C_2 C_1 C_0)) (G_1Q : Ok P w K mg base 6 f_1u ["machine", "instruction", "after"] (spDo C_2 C_1 C_0 0)) (G_D : Ok P w K mg base 6 f_13 ["machine", "instruction", "after"] (spDo C_2 C_1 C_0 1)) (G_1R : Ok P w K mg base 2 f_1v ["machine", "instruction", "after"] (spDo C_2 C_1 C_0 2)) (G_1S : Ok P w K mg base 4 f_1w ["machine", "instruction", "after"] (spDo C_2 C_1 C_0 3)) (G_1T : Ok P w K mg base 3 f_1x ["machine", "instruction", "after"] (spDo C_2 C_1 C_0 4)) (G_1U : Ok P w K mg base 4 f_1y ["machine", "instruction", "after"] (spDo C_2 C_1 C_0 5)) (G_1V : Ok P w K mg base 2 f_1z ["machine", "instruction", "after"] (spDo C_2 C_1 C_0 6)) (G_1W : Ok P w K mg base 3 f_1A ["machine", "instruction", "after"] (spDo C_2 C_1 C_0 7)) (G_1X : Ok P w K mg base 1 f_1B ["machine", "instruction", "after"] (spDo C_2 C_1 C_0 8)) (TM : MchC K C_2) (TI : InsC K C_0) : Ok P w K mg base 10 f_1Q ["machine"] (spNext C_2 C_1 C_0) := by
  refine D.ok sc_5 spNext_len fun cdv A outer s H vs Q E hr h => ?_
  have hu := hu_of hr
  refine ⟨_, (pss_cons (ps_set (i := 1) sc_5.nd rfl (Or.inl rfl) (pe_g m_1t G_1P hr (pa_cons (pv 0) pa_nil))) (pss_cons (ps_if (pt_cmp (pc_isN (pv 1))) (pss_one (ps_ret (pe_glob (v := .int 4) rfl m_u ⟨_, rfl⟩))) pss_nil) (pss_cons (ps_set (i := 2) sc_5.nd rfl (Or.inl rfl) (pe_g m_1s G_1O hr (pa_cons (pv 0) (pa_cons (pv 1) pa_nil)))) (pss_cons (ps_set (i := 3) sc_5.nd rfl (Or.inl rfl) (pe_g m_4 G_4 hr (pa_cons (pe_op op_add (pe_fld (pv 0) rfl) (pe_g m_w G_u hr (pa_cons (pv 1) pa_nil))) pa_nil))) (pss_one (ps_ret (pe_callE (pe_kget hu (pe_glob (v := .ref a_x) rfl m_1r rfl) (pe_fld (pv 2) rfl) (fun _ _ => rfl)) hr (pa_cons (pv 0) (pa_cons (pv 2) (pa_cons (pv 3) pa_nil)))))))))), ?_⟩
  obtain ⟨a, m, rfl, M, qo, qx⟩ := h
  refine ⟨_, rfl, a, m, rfl, M, ?_⟩
  rcases fetch_cases m with ⟨hv, hf⟩ | ⟨wd, n, hv, hn, hf⟩
  · have hs : Sg08.step m = .error 4 := by rw [step_exec, hf]
    exact ⟨_, rfl, _, rfl, itT (decide_eq_true hv) (qx H 4 hs M (Frm.refl _ _))⟩
  · have hn2 : n = 2 ∨ n = 4 := by rw [hn]; split <;> omega
    refine ⟨_, rfl, _, rfl, itF (decide_eq_false (by rw [hv]; intro z; cases z)) ?_⟩
    refine ⟨_, rfl, _, rfl, a, m, wd, congrArg (fun v => [V.ref a.x, v]) hv, M, fun p dx H1 M1 f1 hp => ?_⟩
    refine ⟨_, rfl, a.x, _, a.dx, _, _, rfl, M1.ob, TM.cl, TM.n3, mF_pc _ _ _, _, rfl, wd, (congrArg (fun v => [v]) hv), _, _, rfl, rfl, _, rfl, trivial, ?_⟩
    have ea : wrapZ ((m.pc : Int) + (if wd % 4 = 3 then 4 else 2 : Int)) = _ := after_eq m.pc wd n hn
    have lift : ∀ (i : Instr), decW wd = some i → ∀ Q0 : VK, (∀ v H2, Q0 v H2 = Q v H2) → DoQ C_2 C_1 C_0 H1 Q a m i n := fun i ei Q0 _ => by
      have hs : Sg08.step m = exec m i n := by rw [step_exec, hf, ei]
      exact ⟨fun H' m' h1 h2 h3 => qo H' m' (hs.trans h1) h2 (f1.trans h3), fun e h1 => qx H1 e (hs.trans h1) M1 f1⟩
    refine ⟨_, rfl, p, _, dx, _, _, rfl, hp, TI.cl, TI.n1, insF_form _, ?_⟩
    cases ei : decW wd with
    | none =>
      rw [ei] at hp
      have hs : Sg08.step m = .error 3 := by rw [step_exec, hf, ei]
      exact ⟨_, .ref f_w, rfl, .inl ⟨_, .inr "stop", k_3, rfl, by kernel_rfl⟩, _, _, _, _, rfl, by decide, G_B, _, rfl, _, rfl, _, rfl, _, _, p, dx, iStop "reserved", 3, rfl, hp, .inr (.inr ⟨rfl, rfl⟩), qx H1 3 hs M1 f1⟩
    | some i =>
      rw [ei] at hp
      have L := lift i ei Q fun _ _ => rfl
      have hrg := regs_dec ei
      have hev := even_dec ei
      cases i with
      | reg o rd ra rb => exact ⟨_, .ref f_1u, rfl, .inl ⟨_, .inr "registers", k_3, rfl, by kernel_rfl⟩, _, _, _, _, rfl, by decide, G_1Q, _, rfl, _, rfl, _, rfl, a, m, p, dx, _, n, congrArg (fun v => [V.ref a.x, V.ref p, V.int v]) ea, ⟨M1, hp, hn2, hrg, hev⟩, rfl, L⟩
      | imm o rd rs z => exact ⟨_, .ref f_13, rfl, .inl ⟨_, .inr "immediate", k_3, rfl, by kernel_rfl⟩, _, _, _, _, rfl, by decide, G_D, _, rfl, _, rfl, _, rfl, a, m, p, dx, _, n, congrArg (fun v => [V.ref a.x, V.ref p, V.int v]) ea, ⟨M1, hp, hn2, hrg, hev⟩, rfl, L⟩
      | lui rd z => exact ⟨_, .ref f_13, rfl, .inl ⟨_, .inr "immediate", k_3, rfl, by kernel_rfl⟩, _, _, _, _, rfl, by decide, G_D, _, rfl, _, rfl, _, rfl, a, m, p, dx, _, n, congrArg (fun v => [V.ref a.x, V.ref p, V.int v]) ea, ⟨M1, hp, hn2, hrg, hev⟩, rfl, L⟩
      | auipc rd z => exact ⟨_, .ref f_1v, rfl, .inl ⟨_, .inr "pc", k_3, rfl, by kernel_rfl⟩, _, _, _, _, rfl, by decide, G_1R, _, rfl, _, rfl, _, rfl, a, m, p, dx, _, n, congrArg (fun v => [V.ref a.x, V.ref p, V.int v]) ea, ⟨M1, hp, hn2, hrg, hev⟩, rfl, L⟩
      | load k rd rs z => exact ⟨_, .ref f_1w, rfl, .inl ⟨_, .inr "load", k_3, rfl, by kernel_rfl⟩, _, _, _, _, rfl, by decide, G_1S, _, rfl, _, rfl, _, rfl, a, m, p, dx, _, n, congrArg (fun v => [V.ref a.x, V.ref p, V.int v]) ea, ⟨M1, hp, hn2, hrg, hev⟩, rfl, L⟩
      | store k rs rb z => exact ⟨_, .ref f_1x, rfl, .inl ⟨_, .inr "store", k_3, rfl, by kernel_rfl⟩, _, _, _, _, rfl, by decide, G_1T, _, rfl, _, rfl, _, rfl, a, m, p, dx, _, n, congrArg (fun v => [V.ref a.x, V.ref p, V.int v]) ea, ⟨M1, hp, hn2, hrg, hev⟩, rfl, L⟩
      | branch k ra rb z => exact ⟨_, .ref f_1y, rfl, .inl ⟨_, .inr "branch", k_3, rfl, by kernel_rfl⟩, _, _, _, _, rfl, by decide, G_1U, _, rfl, _, rfl, _, rfl, a, m, p, dx, _, n, congrArg (fun v => [V.ref a.x, V.ref p, V.int v]) ea, ⟨M1, hp, hn2, hrg, hev⟩, rfl, L⟩
      | jal rd z => exact ⟨_, .ref f_1z, rfl, .inl ⟨_, .inr "jump", k_3, rfl, by kernel_rfl⟩, _, _, _, _, rfl, by decide, G_1V, _, rfl, _, rfl, _, rfl, a, m, p, dx, _, n, congrArg (fun v => [V.ref a.x, V.ref p, V.int v]) ea, ⟨M1, hp, hn2, hrg, hev⟩, rfl, L⟩
      | jalr rd rs z => exact ⟨_, .ref f_1A, rfl, .inl ⟨_, .inr "jump to", k_3, rfl, by kernel_rfl⟩, _, _, _, _, rfl, by decide, G_1W, _, rfl, _, rfl, _, rfl, a, m, p, dx, _, n, congrArg (fun v => [V.ref a.x, V.ref p, V.int v]) ea, ⟨M1, hp, hn2, hrg, hev⟩, rfl, L⟩
      | fence => exact ⟨_, .ref f_1B, rfl, .inl ⟨_, .inr "nothing", k_3, rfl, by kernel_rfl⟩, _, _, _, _, rfl, by decide, G_1X, _, rfl, _, rfl, _, rfl, a, m, p, dx, _, n, congrArg (fun v => [V.ref a.x, V.ref p, V.int v]) ea, ⟨M1, hp, hn2, hrg, hev⟩, rfl, L⟩
      | ecall => exact ⟨_, .ref f_w, rfl, .inl ⟨_, .inr "stop", k_3, rfl, by kernel_rfl⟩, _, _, _, _, rfl, by decide, G_B, _, rfl, _, rfl, _, rfl, _, _, p, dx, iStop "ecall", 1, rfl, hp, .inl ⟨rfl, rfl⟩, L.2 1 rfl⟩
      | ebreak => exact ⟨_, .ref f_w, rfl, .inl ⟨_, .inr "stop", k_3, rfl, by kernel_rfl⟩, _, _, _, _, rfl, by decide, G_B, _, rfl, _, rfl, _, rfl, _, _, p, dx, iStop "ebreak", 2, rfl, hp, .inr (.inl ⟨rfl, rfl⟩), L.2 2 rfl⟩
theorem sc_2a : FnScope ["self", "value"] ["self", "value"] (defScope (inClass (top 177) 4)) := ⟨rfl, rfl, rfl, by decide +kernel, rfl, by decide +kernel, by decide +kernel⟩
theorem ok_20 {f_me C_2 C_1 C_0 : Addr} {t_8 t_7 : Tok} (D : Def K "set_pc" "Machine.set_pc" (inClass (top 177) 4) ["self", "value"] f_me) (m_h : mg "DONE" = some (.int 0 t_8)) (m_g : mg "REFUSED" = some (.int (-1) t_7)) (TM : MchC K C_2) : Ok P w K mg base 1 f_me ["self", "value"] (spSetPc C_2 C_1 C_0) := by
  refine D.ok sc_2a spSetPc_len fun cdv A outer s H vs Q E hr h => ?_
  refine ⟨_, (pss_cons (ps_if (pt_cmpR op_ne (pe_op op_mod (pv 1) pe_int) pe_int (nomark _)) (pss_one (ps_ret (pe_lst (pa_cons (pe_glob (v := .int (-1)) rfl m_g ⟨_, rfl⟩) pa_nil)))) pss_nil) (pss_cons (ps_fld (pv 0) (pv 1) rfl) (pss_one (ps_ret (pe_lst (pa_cons (pe_glob (v := .int 0) rfl m_h ⟨_, rfl⟩) pa_nil)))))), ?_⟩
  obtain ⟨a, m, v, rfl, M, hv, q1, q2⟩ := h
  refine ⟨_, rfl, _, _, rfl, rfl, (show (0 : Int) < 2 by decide), rfl, _, rfl, ?_⟩
  refine ite2 (fun e => ?_) fun e => ?_
  · have e' : ¬ v % 2 = 0 := fun z => by
      have e2 : ¬ ((v : Int) % 2 = 0) := fun z2 => by simp [z2] at e
      omega
    exact ⟨(by show 1 ≤ sizeLine; decide), fun p hp => (q2 e').ret M (Frm.refl _ _) hp⟩
  · have e' : v % 2 = 0 := by
      have e2 : V.int ((v : Int) % 2) = V.int 0 := by simpa using e
      have := V.int.inj e2
      omega
    exact ⟨_, rfl, _, rfl, a.x, _, a.dx, _, rfl, M.ob, TM.cl, TM.n3, mF_len _ _ _, (by show 1 ≤ sizeLine; decide), fun p hp => (q1 e').ret (M.setPc hv e') (Frm.updX _ _ _) hp⟩
theorem sc_2b : FnScope ["self", "which", "value"] ["self", "which", "value"] (defScope (inClass (top 177) 3)) := ⟨rfl, rfl, rfl, by decide +kernel, rfl, by decide +kernel, by decide +kernel⟩
theorem ok_21 {f_me C_2 C_1 C_0 : Addr} {t_8 t_a t_7 t_c : Tok} (D : Def K "set_value" "Machine.set_value" (inClass (top 177) 3) ["self", "which", "value"] f_me) (m_h : mg "DONE" = some (.int 0 t_8)) (c_0 : Cls K C_2) (G_e : OkM P w K mg base 1 C_2 "write_register" ["self", "which", "value"] (spWrite C_2 C_1 C_0)) (m_x : mg "REGISTER_COUNT" = some (.int 32 t_a)) (m_g : mg "REFUSED" = some (.int (-1) t_7)) (m_I : mg "PC_NUMBER" = some (.int 32 t_c)) (G_1Y : OkM P w K mg base 1 C_2 "set_pc" ["self", "value"] (spSetPc C_2 C_1 C_0)) (TM : MchC K C_2) : Ok P w K mg base 2 f_me ["self", "which", "value"] (spM2 C_2 C_1 C_0 (fun y z => [[3, y, z]]) fun _ z => 0 ≤ z ∧ z < 18446744073709551616) := by
  refine D.ok sc_2b spM2_len fun cdv A outer s H vs Q E hr h => ?_
  refine ⟨_, (pss_cons (ps_if (pt_cmpR op_eq (pv 1) (pe_glob (v := .int 32) rfl m_I ⟨_, rfl⟩) (nomark _)) (pss_one (ps_ret (pe_m (pv 0) c_0 G_1Y hr (pa_cons (pv 2) pa_nil)))) pss_nil) (pss_cons (ps_if (PW.pt (pw_or (pt_cmpR op_lt (pv 1) pe_int (nomark _)) (pw_or1 (pt_cmpR op_ge (pv 1) (pe_glob (v := .int 32) rfl m_x ⟨_, rfl⟩) (nomark _))))) (pss_one (ps_ret (pe_lst (pa_cons (pe_glob (v := .int (-1)) rfl m_g ⟨_, rfl⟩) pa_nil)))) pss_nil) (pss_cons (ps_expr (pe_m (pv 0) c_0 G_e hr (pa_cons (pv 1) (pa_cons (pv 2) pa_nil)))) (pss_one (ps_ret (pe_lst (pa_cons (pe_glob (v := .int 0) rfl m_h ⟨_, rfl⟩) pa_nil))))))), ?_⟩
  obtain ⟨a, m, y, z, rfl, M, ⟨hz0, hz1⟩, q⟩ := h
  rw [st_set] at q
  obtain ⟨v, rfl⟩ : ∃ v : Nat, z = ((v : Nat) : Int) := ⟨z.toNat, by omega⟩
  have hv : v < WORD := by rw [WORD_eq]; omega
  rw [Int.toNat_natCast] at q
  refine ⟨_, rfl, rfl, _, rfl, ?_⟩
  refine ite2 (fun e => ?_) fun e => ?_
  · have e' : y = 32 := V.int.inj (of_decide_eq_true e)
    rw [if_neg (by rw [within31]; omega)] at q
    refine ⟨_, rfl, a.x, a.dx, _, rfl, M.ob, sp_no _ _ _, _, rfl, a, m, v, rfl, M, hv, fun h2 => ?_, fun h2 => ?_⟩
    · rw [if_pos ⟨e', h2⟩] at q; exact q
    · rw [if_neg (fun z => h2 z.2)] at q; exact q
  · have e' : ¬ y = 32 := fun z => e (decide_eq_true (congrArg V.int z))
    refine ⟨_, rfl, _, _, rfl, rfl, _, rfl, ?_⟩
    refine ite2 (fun e1 => ?_) fun e1 => ?_
    · have e1' := of_decide_eq_true e1
      rw [if_neg (by rw [within31]; omega), if_neg (fun z => e' z.1)] at q
      exact iteT ⟨(by show 1 ≤ sizeLine; decide), fun p hp => q.ret M (Frm.refl _ _) hp⟩
    · have e1' : ¬ y < 0 := fun z => e1 (decide_eq_true z)
      refine ⟨_, rfl, _, _, rfl, rfl, _, rfl, ?_⟩
      refine ite2 (fun e2 => ?_) fun e2 => ?_
      · have e2' := of_decide_eq_true e2
        rw [if_neg (by rw [within31]; omega), if_neg (fun z => e' z.1)] at q
        exact ⟨(by show 1 ≤ sizeLine; decide), fun p hp => q.ret M (Frm.refl _ _) hp⟩
      · have e2' : ¬ 32 ≤ y := fun z => e2 (decide_eq_true z)
        rw [if_pos (by rw [within31]; omega)] at q
        obtain ⟨r, rfl⟩ : ∃ r : Nat, y = ((r : Nat) : Int) := ⟨y.toNat, by omega⟩
        rw [Int.toNat_natCast] at q
        exact ⟨_, rfl, a.x, a.dx, _, rfl, M.ob, reason_no _ _ _, _, rfl, _, rfl, a, m, r, v, rfl, M, by omega, hv, fun H1 M1 f1 => ⟨(by show 1 ≤ sizeLine; decide), fun p hp => q.ret M1 f1 hp⟩⟩
theorem sc_2c : FnScope ["self", "which"] ["self", "which"] (defScope (inClass (top 177) 6)) := ⟨rfl, rfl, rfl, by decide +kernel, rfl, by decide +kernel, by decide +kernel⟩
theorem ok_22 {f_me C_2 C_1 C_0 : Addr} {t_8 t_a t_7 t_c : Tok} (D : Def K "get_value" "Machine.get_value" (inClass (top 177) 6) ["self", "which"] f_me) (m_h : mg "DONE" = some (.int 0 t_8)) (m_x : mg "REGISTER_COUNT" = some (.int 32 t_a)) (m_g : mg "REFUSED" = some (.int (-1) t_7)) (m_I : mg "PC_NUMBER" = some (.int 32 t_c)) (TM : MchC K C_2) : Ok P w K mg base 1 f_me ["self", "which"] (spM1 C_2 C_1 C_0 (fun y => [[4, y]]) fun _ => True) := by
  refine D.ok sc_2c spM1_len fun cdv A outer s H vs Q E hr h => ?_
  refine ⟨_, (pss_cons (ps_if (pt_cmpR op_eq (pv 1) (pe_glob (v := .int 32) rfl m_I ⟨_, rfl⟩) (nomark _)) (pss_one (ps_ret (pe_lst (pa_cons (pe_glob (v := .int 0) rfl m_h ⟨_, rfl⟩) (pa_cons (pe_fld (pv 0) rfl) pa_nil))))) pss_nil) (pss_cons (ps_if (PW.pt (pw_or (pt_cmpR op_lt (pv 1) pe_int (nomark _)) (pw_or1 (pt_cmpR op_ge (pv 1) (pe_glob (v := .int 32) rfl m_x ⟨_, rfl⟩) (nomark _))))) (pss_one (ps_ret (pe_lst (pa_cons (pe_glob (v := .int (-1)) rfl m_g ⟨_, rfl⟩) pa_nil)))) pss_nil) (pss_one (ps_ret (pe_lst (pa_cons (pe_glob (v := .int 0) rfl m_h ⟨_, rfl⟩) (pa_cons (pe_ix ix_list (pe_fld (pv 0) rfl) (pv 1) (fun _ _ => rfl)) pa_nil))))))), ?_⟩
  obtain ⟨a, m, y, rfl, M, -, q⟩ := h
  rw [st_get] at q
  refine ⟨_, rfl, rfl, _, rfl, ?_⟩
  refine ite2 (fun e => ?_) fun e => ?_
  · have e' : y = 32 := V.int.inj (of_decide_eq_true e)
    rw [if_neg (by rw [within31]; omega), if_pos e'] at q
    exact ⟨_, rfl, a.x, _, a.dx, _, _, rfl, M.ob, TM.cl, TM.n3, mF_pc _ _ _, (by show 2 ≤ sizeLine; decide), fun p hp => q.ret M (Frm.refl _ _) hp⟩
  · have e' : ¬ y = 32 := fun z => e (decide_eq_true (congrArg V.int z))
    refine ⟨_, rfl, _, _, rfl, rfl, _, rfl, ?_⟩
    refine ite2 (fun e1 => ?_) fun e1 => ?_
    · have e1' := of_decide_eq_true e1
      rw [if_neg (by rw [within31]; omega), if_neg e'] at q
      exact iteT ⟨(by show 1 ≤ sizeLine; decide), fun p hp => q.ret M (Frm.refl _ _) hp⟩
    · have e1' : ¬ y < 0 := fun z => e1 (decide_eq_true z)
      refine ⟨_, rfl, _, _, rfl, rfl, _, rfl, ?_⟩
      refine ite2 (fun e2 => ?_) fun e2 => ?_
      · have e2' := of_decide_eq_true e2
        rw [if_neg (by rw [within31]; omega), if_neg e'] at q
        exact ⟨(by show 1 ≤ sizeLine; decide), fun p hp => q.ret M (Frm.refl _ _) hp⟩
      · have e2' : ¬ 32 ≤ y := fun z => e2 (decide_eq_true z)
        rw [if_pos (by rw [within31]; omega)] at q
        obtain ⟨r, rfl⟩ : ∃ r : Nat, y = ((r : Nat) : Int) := ⟨y.toNat, by omega⟩
        rw [Int.toNat_natCast] at q
        exact ⟨_, rfl, a.x, _, a.dx, _, _, rfl, M.ob, TM.cl, TM.n2, mF_registers _ _ _, _, rfl, a.regs, _, _, _, rfl, rfl, SqL.of M.re, atI_nat (regsV_get (by omega)), (by show 2 ≤ sizeLine; decide), fun p hp => q.ret M (Frm.refl _ _) hp⟩
theorem sc_2d : FnScope ["self"] ["self"] (defScope (inClass (top 177) 8)) := ⟨rfl, rfl, rfl, by decide +kernel, rfl, by decide +kernel, by decide +kernel⟩
theorem ok_23 {f_me C_2 C_1 C_0 : Addr} (D : Def K "why" "Machine.why" (inClass (top 177) 8) ["self"] f_me)  (TM : MchC K C_2) : Ok P w K mg base 1 f_me ["self"] (spM0 C_2 C_1 C_0 [[6]]) := by
  refine D.ok sc_2d spM0_len fun cdv A outer s H vs Q E hr h => ?_
  refine ⟨_, (pss_one (ps_ret (pe_lst (pa_cons (pe_fld (pv 0) rfl) pa_nil)))), ?_⟩
  obtain ⟨a, m, rfl, M, q⟩ := h
  rw [st_why] at q
  exact ⟨_, rfl, a.x, _, a.dx, _, _, rfl, M.ob, TM.cl, TM.n4, mF_reason _ _ _, (by show 1 ≤ sizeLine; decide), fun p hp => q.ret M (Frm.refl _ _) hp⟩
theorem sc_2e : FnScope ["self", "place", "row"] ["self", "place", "row"] (defScope (inClass (top 177) 1)) := ⟨rfl, rfl, rfl, by decide +kernel, rfl, by decide +kernel, by decide +kernel⟩
theorem ok_24 {f_me C_1 C_2 C_0 : Addr} {t_8 t_7 : Tok} (D : Def K "put" "Machine.put" (inClass (top 177) 1) ["self", "place", "row"] f_me) (m_h : mg "DONE" = some (.int 0 t_8)) (c_2 : Cls K C_1) (G_z : OkM P w K mg base 1 C_1 "store_row" ["self", "place", "row"] (spStoreRow K C_1)) (G_g : OkM P w K mg base 1 C_1 "holds" ["self", "place", "n"] spHolds) (n_0 : mg "len" = none) (m_g : mg "REFUSED" = some (.int (-1) t_7)) (TM : MchC K C_2) (TE : MemC K C_1) : Ok P w K mg base 2 f_me ["self", "place", "row"] (spPut K C_2 C_1 C_0) := by
  refine D.ok sc_2e spPut_len fun cdv A outer s H vs Q E hr h => ?_
  refine ⟨_, (pss_cons (ps_if (pt_not (pt_val (pe_m (pe_fld (pv 0) rfl) c_2 G_g hr (pa_cons (pv 1) (pa_cons (pe_callB call_len_seq rfl n_0 PySem.boot_len (pa_cons (pv 2) pa_nil)) pa_nil))))) (pss_one (ps_ret (pe_lst (pa_cons (pe_glob (v := .int (-1)) rfl m_g ⟨_, rfl⟩) pa_nil)))) pss_nil) (pss_cons (ps_expr (pe_m (pe_fld (pv 0) rfl) c_2 G_z hr (pa_cons (pv 1) (pa_cons (pv 2) pa_nil)))) (pss_one (ps_ret (pe_lst (pa_cons (pe_glob (v := .int 0) rfl m_h ⟨_, rfl⟩) pa_nil)))))), ?_⟩
  obtain ⟨a, m, z, r, b, rfl, M, hb, n1, n2, n3, n4, hB, q⟩ := h
  rw [st_put] at q
  refine ⟨_, rfl, a.x, _, a.dx, _, _, rfl, M.ob, TM.cl, TM.n1, mF_memory _ _ _, a.mem, a.dm, _, rfl, M.me, holds_no _, _, rfl, _, rfl, r, _, rfl, .inl (SqL.of hb), _, _, _, rfl, _, rfl, ?_⟩
  rw [List.length_map]
  generalize hc : Sg08.fits z (b.length : Int) = c at q
  cases c with
  | true =>
    rw [if_pos rfl] at q
    have hf := (fits_bool _ _).mp hc
    obtain ⟨p0, rfl⟩ : ∃ p0 : Nat, z = ((p0 : Nat) : Int) := ⟨z.toNat, by omega⟩
    rw [Int.toNat_natCast] at q
    refine notT rfl ⟨_, rfl, a.x, _, a.dx, _, _, rfl, M.ob, TM.cl, TM.n1, mF_memory _ _ _, a.mem, a.dm, _, rfl, M.me, sr_no _, _, rfl, _, rfl, a.mem, a.dm, a.cells, r, p0, _, _, rfl, M.me, M.ce, SqL.of hb, n1, by rw [List.length_map, cellsV_len]; omega, fun H1 h1 k1 => ?_⟩
    rw [wr_cells _ _ _ hB (by omega)] at h1
    exact ⟨(by show 1 ≤ sizeLine; decide), fun p hp => q.ret (M.setMem h1 k1) (fun b o e _ h2 _ _ => k1 b o e h2) hp⟩
  | false =>
    rw [if_neg Bool.false_ne_true] at q
    exact notF rfl ⟨(by show 1 ≤ sizeLine; decide), fun p hp => q.ret M (Frm.refl _ _) hp⟩
theorem sc_2f : FnScope ["self", "place", "n"] ["self", "place", "n"] (defScope (inClass (top 177) 2)) := ⟨rfl, rfl, rfl, by decide +kernel, rfl, by decide +kernel, by decide +kernel⟩
theorem ok_25 {f_me C_1 C_2 C_0 : Addr} {t_8 t_7 : Tok} (D : Def K "take" "Machine.take" (inClass (top 177) 2) ["self", "place", "n"] f_me) (m_h : mg "DONE" = some (.int 0 t_8)) (c_2 : Cls K C_1) (G_1Z : OkM P w K mg base 1 C_1 "load_row" ["self", "place", "n"] (spLoadRow C_1)) (G_g : OkM P w K mg base 1 C_1 "holds" ["self", "place", "n"] spHolds) (m_g : mg "REFUSED" = some (.int (-1) t_7)) (TM : MchC K C_2) (TE : MemC K C_1) : Ok P w K mg base 2 f_me ["self", "place", "n"] (spM2 C_2 C_1 C_0 (fun y z => [[2, y, z]]) fun _ _ => True) := by
  refine D.ok sc_2f spM2_len fun cdv A outer s H vs Q E hr h => ?_
  refine ⟨_, (pss_cons (ps_if (pt_not (pt_val (pe_m (pe_fld (pv 0) rfl) c_2 G_g hr (pa_cons (pv 1) (pa_cons (pv 2) pa_nil))))) (pss_one (ps_ret (pe_lst (pa_cons (pe_glob (v := .int (-1)) rfl m_g ⟨_, rfl⟩) pa_nil)))) pss_nil) (pss_one (ps_ret (pe_op op_cat (pe_lst (pa_cons (pe_glob (v := .int 0) rfl m_h ⟨_, rfl⟩) pa_nil)) (pe_m (pe_fld (pv 0) rfl) c_2 G_1Z hr (pa_cons (pv 1) (pa_cons (pv 2) pa_nil))))))), ?_⟩
  obtain ⟨a, m, y, z, rfl, M, -, q⟩ := h
  rw [st_take] at q
  refine ⟨_, rfl, a.x, _, a.dx, _, _, rfl, M.ob, TM.cl, TM.n1, mF_memory _ _ _, a.mem, a.dm, _, rfl, M.me, holds_no _, _, rfl, _, rfl, _, _, _, rfl, _, rfl, ?_⟩
  generalize hc : Sg08.fits y z = c at q
  cases c with
  | true =>
    rw [if_pos rfl] at q
    have hf := (fits_bool _ _).mp hc
    obtain ⟨p0, rfl⟩ : ∃ p0 : Nat, y = ((p0 : Nat) : Int) := ⟨y.toNat, by omega⟩
    obtain ⟨n0, rfl⟩ : ∃ n0 : Nat, z = ((n0 : Nat) : Int) := ⟨z.toNat, by omega⟩
    rw [Int.toNat_natCast, Int.toNat_natCast] at q
    have hl : p0 + n0 ≤ 65536 := by omega
    refine notT rfl ⟨(by show 1 ≤ sizeLine; decide), fun l hl0 => ?_⟩
    have M1 : MAt C_2 C_1 C_0 (upd H l (.lst [.int 0])) a m := M.laid hl0
    refine ⟨_, rfl, a.x, _, a.dx, _, _, rfl, M1.ob, TM.cl, TM.n1, mF_memory _ _ _, a.mem, a.dm, _, rfl, M1.me, lr_no _, _, rfl, _, rfl, a.mem, a.dm, a.cells, p0, n0, _, rfl, M1.me, M1.ce, by rw [cellsV_len]; exact hl, fun q0 hq0 => ?_⟩
    have nlq : l ≠ q0 := ne_of_none (upd_same) hq0
    have M2 : MAt C_2 C_1 C_0 (upd (upd H l (.lst [.int 0])) q0 (.lst (((cellsV m.mem).drop p0).take n0))) a m := M1.laid hq0
    refine ⟨l, q0, _, _, rfl, rfl, (by rw [upd_ne nlq]; exact upd_same), upd_same, (by rw [List.length_take, List.length_drop, cellsV_len]; exact Nat.le_trans (show 1 + _ ≤ 65537 by omega) (by decide)), fun p hp => ?_⟩
    rw [take_bytes _ _ _ hl] at M2 hp ⊢
    exact q.ret (ys := 0 :: _) M2 (Frm.same ((same_laid hl0).trans (same_laid hq0))) hp
  | false =>
    rw [if_neg Bool.false_ne_true] at q
    exact notF rfl ⟨(by show 1 ≤ sizeLine; decide), fun p hp => q.ret M (Frm.refl _ _) hp⟩
theorem sc_c : FnScope ["self", "steps", "done"] ["self", "steps"] (defScope (inClass (top 177) 7)) := ⟨rfl, rfl, rfl, by decide +kernel, rfl, by decide +kernel, by decide +kernel⟩
theorem ok_26 {f_me f_1Q C_2 C_1 C_0 : Addr} {t_0 t_g t_7 : Tok} (D : Def K "run" "Machine.run" (inClass (top 177) 7) ["self", "steps"] f_me) (m_8 : mg "NOT_STOPPED" = some (.int 0 t_0)) (m_1u : mg "do_next" = some (.ref f_1Q)) (G_20 : Ok P w K mg base 10 f_1Q ["machine"] (spNext C_2 C_1 C_0)) (m_1v : mg "MOST_STEPS" = some (.int 1099511627776 t_g)) (m_g : mg "REFUSED" = some (.int (-1) t_7)) (TM : MchC K C_2) : Ok P w K mg base 11 f_me ["self", "steps"] (spM1 C_2 C_1 C_0 (fun y => [[5, y]]) fun _ => True) := by
  refine D.ok sc_c spM1_len fun cdv A outer s H vs Q E hr h => ?_
  refine ⟨_, (pss_cons (ps_if (PW.pt (pw_or (pt_cmpR op_lt (pv 1) pe_int (nomark _)) (pw_or1 (pt_cmpR op_gt (pv 1) (pe_glob (v := .int 1099511627776) rfl m_1v ⟨_, rfl⟩) (nomark _))))) (pss_one (ps_ret (pe_lst (pa_cons (pe_glob (v := .int (-1)) rfl m_g ⟨_, rfl⟩) pa_nil)))) pss_nil) (pss_cons (ps_fld (pv 0) (pe_glob (v := .int 0) rfl m_8 ⟨_, rfl⟩) rfl) (pss_cons (ps_set (i := 2) sc_c.nd rfl (Or.inl rfl) pe_int) (pss_cons (ps_while PassesOwn.never (PW.pt (pw_and (pt_cmpR op_lt (pv 2) (pv 1) (nomark _)) (pw_and1 (pt_cmpR op_eq (pe_fld (pv 0) rfl) (pe_glob (v := .int 0) rfl m_8 ⟨_, rfl⟩) (nomark _))))) (pss_cons (ps_fld (pv 0) (pe_g m_1u G_20 hr (pa_cons (pv 0) pa_nil)) rfl) (pss_one (ps_if (pt_cmpR op_eq (pe_fld (pv 0) rfl) (pe_glob (v := .int 0) rfl m_8 ⟨_, rfl⟩) (nomark _)) (pss_one (ps_aug (i := 2) sc_c.nd rfl (Or.inl rfl) pe_int iop_add)) pss_nil)))) (pss_one (ps_ret (pe_lst (pa_cons (pv 2) pa_nil)))))))), ?_⟩
  obtain ⟨a, m, y, rfl, M, -, q⟩ := h
  rw [st_run] at q
  refine ⟨_, rfl, _, _, rfl, rfl, _, rfl, ?_⟩
  refine ite2 (fun e1 => ?_) fun e1 => ?_
  · have e1' := of_decide_eq_true e1
    rw [if_neg (by rw [within40]; omega)] at q
    exact iteT ⟨(by show 1 ≤ sizeLine; decide), fun p hp => q.ret M (Frm.refl _ _) hp⟩
  have e1' : ¬ y < 0 := fun z => e1 (decide_eq_true z)
  refine ⟨_, rfl, _, _, rfl, rfl, _, rfl, ?_⟩
  refine ite2 (fun e2 => ?_) fun e2 => ?_
  · have e2' := of_decide_eq_true e2
    rw [if_neg (by rw [within40]; omega)] at q
    exact ⟨(by show 1 ≤ sizeLine; decide), fun p hp => q.ret M (Frm.refl _ _) hp⟩
  have e2' : ¬ 1099511627776 < y := fun z => e2 (decide_eq_true z)
  rw [if_pos (by rw [within40]; omega)] at q
  obtain ⟨N, rfl⟩ : ∃ N : Nat, y = ((N : Nat) : Int) := ⟨y.toNat, by omega⟩
  rw [Int.toNat_natCast] at q
  refine ⟨_, rfl, a.x, _, a.dx, _, rfl, M.ob, TM.cl, TM.n4, mF_len _ _ _, ?_⟩
  refine ⟨fun μ σ H2 => ∃ (k e : Nat) (mk : Machine), μ = 2 * (N - k) + (if e = 0 then 1 else 0) ∧ σ = [some (.ref a.x), some (.int ((N : Nat) : Int)), some (.int ((k : Nat) : Int))] ∧ k ≤ N ∧ iter k m = some mk ∧ MAt C_2 C_1 C_0 H2 a { mk with why := e } ∧ Frm a H H2 ∧ (e ≠ 0 → k < N ∧ Sg08.step mk = .error e), ⟨_, 0, 0, m, rfl, rfl, Nat.zero_le _, rfl, M.setWhy 0, Frm.updX _ _ _, fun z => absurd rfl z⟩, ?_⟩
  rintro μ σ H2 ⟨k, e, mk, rfl, rfl, hk, hit, M2, f2, he⟩
  have fin : ∀ {ys : List V}, ys = [V.int ((k : Nat) : Int)] → (k = N ∨ e ≠ 0) → (ys.length ≤ sizeLine ∧ ∀ p, H2 p = none → Q (.ref p) (upd H2 p (.lst ys))) := by
    rintro ys rfl hor
    refine ⟨(by show 1 ≤ sizeLine; decide), fun p hp => ?_⟩
    have er : Sg08.run N m = (k, { mk with why := e }) := by
      by_cases z : e = 0
      · subst z
        have hkN : k = N := hor.resolve_right fun z => z rfl
        subst hkN
        exact run_all hit
      · obtain ⟨h1, h2⟩ := he z
        exact run_stop hit h1 h2
    rw [er] at q
    exact q.ret M2 f2 hp
  refine ⟨_, rfl, _, rfl, _, _, rfl, rfl, _, rfl, ?_⟩
  refine ite2 (fun c1 => ?_) fun c1 => ?_
  · have c1' := of_decide_eq_true c1
    refine ⟨_, rfl, a.x, _, a.dx, _, _, rfl, M2.ob, TM.cl, TM.n4, mF_reason _ _ _, rfl, _, rfl, ?_⟩
    refine ite2 (fun c2 => ?_) fun c2 => ?_
    · have c2' : e = 0 := by have h0 : ((e : Nat) : Int) = 0 := V.int.inj (of_decide_eq_true c2); omega
      subst c2'
      refine ⟨fun σ' H' => ∃ (k' e' : Nat) (mk' : Machine), 2 * (N - k') + (if e' = 0 then 1 else 0) < 2 * (N - k) + 1 ∧ σ' = [some (.ref a.x), some (.int ((N : Nat) : Int)), some (.int ((k' : Nat) : Int))] ∧ k' ≤ N ∧ iter k' m = some mk' ∧ MAt C_2 C_1 C_0 H' a { mk' with why := e' } ∧ Frm a H H' ∧ (e' ≠ 0 → k' < N ∧ Sg08.step mk' = .error e'), fun σ' H' ⟨k', e', mk', h1, h2, h3, h4, h5, h6, h7⟩ => ⟨_, h1, k', e', mk', rfl, h2, h3, h4, h5, h6, h7⟩, ?_⟩
      have hsw := step_why mk 0
      refine ⟨_, rfl, a, { mk with why := 0 }, rfl, M2, fun H3 m3 hs M3 f3 => ?_, fun H3 e3 hs M3 f3 => ?_⟩
      · have hm3 : ∃ n3, Sg08.step mk = .ok n3 ∧ m3 = { n3 with why := 0 } := by
          rw [hsw] at hs
          cases q3 : Sg08.step mk with
          | error e4 => rw [q3] at hs; cases hs
          | ok n3 => rw [q3] at hs; injection hs with hs; exact ⟨n3, rfl, hs.symm⟩
        obtain ⟨n3, hs3, rfl⟩ := hm3
        refine ⟨_, rfl, a.x, _, a.dx, _, rfl, M3.ob, TM.cl, TM.n4, mF_len _ _ _, ?_⟩
        have M4 := M3.setWhy 0
        refine ⟨_, rfl, a.x, _, a.dx, _, _, rfl, upd_same, TM.cl, TM.n4, (by rw [mF_setreason]; exact mF_reason _ _ _), rfl, _, rfl, ?_⟩
        refine iteT ⟨_, rfl, _, _, rfl, rfl, k + 1, 0, n3, by rw [if_pos rfl]; omega, rfl, by omega, iter_next hit hs3, M4, (f2.trans f3).trans (Frm.updX _ _ _), fun z => absurd rfl z⟩
      · have hs3 : Sg08.step mk = .error e3 := by
          rw [hsw] at hs
          cases q3 : Sg08.step mk with
          | error e4 => rw [q3] at hs; injection hs with hs; rw [hs]
          | ok n3 => rw [q3] at hs; cases hs
        have hne : e3 ≠ 0 := by have := step_err hs3; omega
        refine ⟨_, rfl, a.x, _, a.dx, _, rfl, M3.ob, TM.cl, TM.n4, mF_len _ _ _, ?_⟩
        have M4 := M3.setWhy e3
        refine ⟨_, rfl, a.x, _, a.dx, _, _, rfl, upd_same, TM.cl, TM.n4, (by rw [mF_setreason]; exact mF_reason _ _ _), rfl, _, rfl, ?_⟩
        refine itF (decide_eq_false (fun z => hne (by have := V.int.inj z; omega))) ⟨k, e3, mk, by rw [if_neg hne]; omega, rfl, hk, hit, M4, (f2.trans f3).trans (Frm.updX _ _ _), fun _ => ⟨by omega, hs3⟩⟩
    · have c2' : e ≠ 0 := fun z => c2 (decide_eq_true (by rw [z]; rfl))
      exact ⟨_, rfl, fin rfl (.inr c2')⟩
  · have c1' : ¬ ((k : Nat) : Int) < ((N : Nat) : Int) := fun z => c1 (decide_eq_true z)
    exact iteF ⟨_, rfl, fin rfl (.inl (by omega))⟩
end
end Sp8
end
section
namespace Sp8
open PySem PySem.Spec PyProof.Rows L2
open Sg08 (Alu WORD Instr Machine)
def rF (l : Addr) (i : Int) : List (Str × V) := [("numbers", .ref l), ("at", .int i)]
theorem rk1 : ¬ ("numbers" : Str) = "at" := by decide +kernel
theorem rF_numbers (l : Addr) (i : Int) : (rF l i).lookup ("numbers" : Str) = some (.ref l) := look_hit
theorem rF_at (l : Addr) (i : Int) : (rF l i).lookup ("at" : Str) = some (.int i) := by unfold rF; rw [look_miss (fun e => rk1 e.symm)]; exact look_hit
theorem rF_set (l : Addr) (i z : Int) : putF "at" (.int z) (rF l i) = rF l z := by simp only [putF, rF, if_neg rk1, if_true]
theorem rF_put (l : Addr) (z : Int) : putF "at" (.int z) (putF "numbers" (.ref l) []) = rF l z := by simp only [putF, rF, if_neg rk1]
theorem rF_no (l : Addr) (i : Int) {x : Str} (h1 : ¬ x = "numbers") (h2 : ¬ x = "at") : (rF l i).lookup x = none := by unfold rF; rw [look_miss h1, look_miss h2]; rfl
theorem rn_no (l : Addr) (i : Int) : (rF l i).lookup ("read_number" : Str) = none := rF_no _ _ (by decide +kernel) (by decide +kernel)
theorem rr_no (l : Addr) (i : Int) : (rF l i).lookup ("read_row" : Str) = none := rF_no _ _ (by decide +kernel) (by decide +kernel)
theorem hm_no (l : Addr) (i : Int) : (rF l i).lookup ("has_more" : Str) = none := rF_no _ _ (by decide +kernel) (by decide +kernel)
structure RdC (K : PySem.W.Frag) (C : Addr) : Prop where
  cl : Cls K C
  n1 : NoAttr K C "numbers"
  n2 : NoAttr K C "at"
def spRInit (C : Addr) : Sp := fun vs H Q _ => ∃ (p dx l : Addr), vs = [.ref p, .ref l] ∧ H p = some (.ins C dx []) ∧ ∀ H' : Hp, H' p = some (.ins C dx (rF l 0)) → (∀ b o, H b = some o → b ≠ p → H' b = some o) → Q .non H'
theorem spRInit_len {C : Addr} {x y : Str} : ∀ vs H Q E, spRInit C vs H Q E → vs.length = [x, y].length := fun vs H Q E h => by obtain ⟨_, _, _, rfl, _⟩ := h; rfl
def spMore (K : PySem.W.Frag) (C : Addr) : Sp := fun vs H Q _ => ∃ (r dr l : Addr) (ns : List Int) (i : Nat), vs = [.ref r] ∧ H r = some (.ins C dr (rF l ((i : Nat) : Int))) ∧ SqL K H l (ns.map V.int) ∧ Q (.bl (decide (i < ns.length))) H
theorem spMore_len {K : PySem.W.Frag} {C : Addr} {x : Str} : ∀ vs H Q E, spMore K C vs H Q E → vs.length = [x].length := fun vs H Q E h => by obtain ⟨_, _, _, _, _, rfl, _⟩ := h; rfl
def spRead (K : PySem.W.Frag) (C : Addr) : Sp := fun vs H Q _ => ∃ (r dr l : Addr) (ns : List Int) (i : Nat) (z : Int), vs = [.ref r] ∧ H r = some (.ins C dr (rF l ((i : Nat) : Int))) ∧ SqL K H l (ns.map V.int) ∧ ns[i]? = some z ∧ Q (.int z) (upd H r (.ins C dr (rF l ((i + 1 : Nat) : Int))))
theorem spRead_len {K : PySem.W.Frag} {C : Addr} {x : Str} : ∀ vs H Q E, spRead K C vs H Q E → vs.length = [x].length := fun vs H Q E h => by obtain ⟨_, _, _, _, _, _, rfl, _⟩ := h; rfl
def spReadRow (K : PySem.W.Frag) (C : Addr) : Sp := fun vs H Q _ => ∃ (r dr l : Addr) (ns row t : List Int) (i : Nat), vs = [.ref r] ∧ H r = some (.ins C dr (rF l ((i : Nat) : Int))) ∧ SqL K H l (ns.map V.int) ∧ ns.drop i = (row.length : Int) :: (row ++ t) ∧ row.length ≤ 16000 ∧
  ∀ (p : Addr) (H' : Hp), H p = none → H' r = some (.ins C dr (rF l ((i + 1 + row.length : Nat) : Int))) → H' p = some (.lst (row.map V.int)) → (∀ b o, H b = some o → b ≠ r → H' b = some o) → Q (.ref p) H'
theorem spReadRow_len {K : PySem.W.Frag} {C : Addr} {x : Str} : ∀ vs H Q E, spReadRow K C vs H Q E → vs.length = [x].length := fun vs H Q E h => by obtain ⟨_, _, _, _, _, _, _, rfl, _⟩ := h; rfl
theorem sql_upd {K : PySem.W.Frag} {H : Hp} {C dr r l : Addr} {fs : List (Str × V)} {xs : List V} {o : HO} (h : SqL K H l xs) (hr : H r = some (.ins C dr fs)) : SqL K (upd H r o) l xs := by
  rcases h with (h | ⟨u, h⟩) | h
  · exact .inl (.inl (by rw [upd_ne (ne_of h hr (by intro z; cases z))]; exact h))
  · exact .inl (.inr ⟨u, by rw [upd_ne (ne_of h hr (by intro z; cases z))]; exact h⟩)
  · exact .inr h
theorem sql_keep {K : PySem.W.Frag} {H H' : Hp} {C dr r l : Addr} {fs : List (Str × V)} {xs : List V} (h : SqL K H l xs) (hr : H r = some (.ins C dr fs)) (k : ∀ b o, H b = some o → b ≠ r → H' b = some o) : SqL K H' l xs := by
  rcases h with (h | ⟨u, h⟩) | h
  · exact .inl (.inl (k _ _ h (ne_of h hr (by intro z; cases z))))
  · exact .inl (.inr ⟨u, k _ _ h (ne_of h hr (by intro z; cases z))⟩)
  · exact .inr h
theorem map_get {ns : List Int} {i : Nat} {z : Int} (h : ns[i]? = some z) : (ns.map V.int)[i]? = some (.int z) := by rw [List.getElem?_map, h]; rfl
theorem drop_get {ns r : List Int} {i : Nat} {z : Int} (h : ns.drop i = z :: r) : ns[i]? = some z := by
  have e : (ns.drop i)[0]? = some z := by rw [h]; rfl
  rw [List.getElem?_drop, Nat.add_zero] at e; exact e
theorem drop_next {ns r : List Int} {i : Nat} {z : Int} (h : ns.drop i = z :: r) : ns.drop (i + 1) = r := by
  have e : (ns.drop i).drop 1 = r := by rw [h]; rfl
  rw [List.drop_drop] at e; exact e
end Sp8
end
section
namespace Sp8
open PySem PySem.Spec PyProof.Rows L2
open Sg08 (Alu WORD Machine Instr)
section
variable {P : Program} {w : World} {K : PySem.W.Frag} {mg : Str → Option Value} {base : Heap}
theorem sc_2g : FnScope ["self", "numbers"] ["self", "numbers"] (defScope (inClass (top 179) 0)) := ⟨rfl, rfl, rfl, by decide +kernel, rfl, by decide +kernel, by decide +kernel⟩
theorem ok_27 {f_me C_3 : Addr} (D : Def K "__init__" "Reader.__init__" (inClass (top 179) 0) ["self", "numbers"] f_me)  (TR : RdC K C_3) : Ok P w K mg base 1 f_me ["self", "numbers"] (spRInit C_3) := by
  refine D.ok sc_2g spRInit_len fun cdv A outer s H vs Q E hr h => ?_
  refine ⟨_, (pss_cons (ps_fld (pv 0) (pv 1) rfl) (pss_one (ps_fld (pv 0) pe_int rfl))), ?_⟩
  obtain ⟨p, dx, l, rfl, hp, k⟩ := h
  have l0 : ([] : List (Str × V)).length ≤ 0 := Nat.le_refl _
  refine ⟨_, rfl, _, rfl, p, _, dx, [], rfl, hp, TR.cl, TR.n1, (by show 0 < 1000; decide), _, rfl, p, _, dx, _, rfl, upd_same, TR.cl, TR.n2, Nat.lt_of_le_of_lt (putF_le l0) (by decide), ?_⟩
  refine k _ (Eq.trans upd_same (congrArg (fun q => some (HO.ins C_3 dx q)) (rF_put _ _))) fun b o e hb => ?_
  rw [upd_ne hb, upd_ne hb]
  exact e
theorem sc_2h : FnScope ["self"] ["self"] (defScope (inClass (top 179) 1)) := ⟨rfl, rfl, rfl, by decide +kernel, rfl, by decide +kernel, by decide +kernel⟩
theorem ok_28 {f_me C_3 : Addr} (D : Def K "has_more" "Reader.has_more" (inClass (top 179) 1) ["self"] f_me) (n_0 : mg "len" = none) (TR : RdC K C_3) : Ok P w K mg base 1 f_me ["self"] (spMore K C_3) := by
  refine D.ok sc_2h spMore_len fun cdv A outer s H vs Q E hr h => ?_
  refine ⟨_, (pss_one (ps_ret (pe_cmpR op_lt (pe_fld (pv 0) rfl) (pe_callB call_len_seq rfl n_0 PySem.boot_len (pa_cons (pe_fld (pv 0) rfl) pa_nil)) (nomark _)))), ?_⟩
  obtain ⟨r, dr, l, ns, i, rfl, hr', hS, q⟩ := h
  exact ⟨_, rfl, r, _, dr, _, _, rfl, hr', TR.cl, TR.n2, rF_at _ _, _, rfl, r, _, dr, _, _, rfl, hr', TR.cl, TR.n1, rF_numbers _ _, l, _, rfl, .inl hS, _, _, rfl, rfl, qe (congrArg V.bl (decide_eq_decide.mpr (by rw [List.length_map]; omega))) q⟩
theorem sc_B : FnScope ["self", "number"] ["self"] (defScope (inClass (top 179) 2)) := ⟨rfl, rfl, rfl, by decide +kernel, rfl, by decide +kernel, by decide +kernel⟩
theorem ok_29 {f_me C_3 : Addr} (D : Def K "read_number" "Reader.read_number" (inClass (top 179) 2) ["self"] f_me)  (TR : RdC K C_3) : Ok P w K mg base 1 f_me ["self"] (spRead K C_3) := by
  refine D.ok sc_B spRead_len fun cdv A outer s H vs Q E hr h => ?_
  refine ⟨_, (pss_cons (ps_set (i := 1) sc_B.nd rfl (Or.inl rfl) (pe_ix ix_list (pe_fld (pv 0) rfl) (pe_fld (pv 0) rfl) (fun _ _ => rfl))) (pss_cons (ps_fldaug (pv 0) pe_int in_add) (pss_one (ps_ret (pv 1))))), ?_⟩
  obtain ⟨r, dr, l, ns, i, z, rfl, hr', hS, hz, q⟩ := h
  refine ⟨_, rfl, r, _, dr, _, _, rfl, hr', TR.cl, TR.n1, rF_numbers _ _, _, rfl, r, _, dr, _, _, rfl, hr', TR.cl, TR.n2, rF_at _ _, l, _, _, _, rfl, rfl, hS, atI_nat (map_get hz), ?_⟩
  refine ⟨_, rfl, r, _, dr, _, _, rfl, hr', TR.cl, TR.n2, rF_at _ _, _, _, rfl, rfl, ?_⟩
  refine ⟨dr, _, hr', (by show 2 < 1000; decide), _, rfl, ?_⟩
  have e1 : putF "at" (.int ((i : Int) + 1)) (rF l ((i : Nat) : Int)) = rF l ((i + 1 : Nat) : Int) := rF_set _ _ _
  exact e1 ▸ q
theorem sc_d : FnScope ["self", "length", "row"] ["self"] (defScope (inClass (top 179) 3)) := ⟨rfl, rfl, rfl, by decide +kernel, rfl, by decide +kernel, by decide +kernel⟩
theorem ok_2a {f_me C_3 : Addr} (D : Def K "read_row" "Reader.read_row" (inClass (top 179) 3) ["self"] f_me) (n_0 : mg "len" = none) (c_1 : Cls K C_3) (G_d : OkM P w K mg base 1 C_3 "read_number" ["self"] (spRead K C_3)) : Ok P w K mg base 2 f_me ["self"] (spReadRow K C_3) := by
  refine D.ok sc_d spReadRow_len fun cdv A outer s H vs Q E hr h => ?_
  refine ⟨_, (pss_cons (ps_set (i := 1) sc_d.nd rfl (Or.inl rfl) (pe_m0 (pv 0) c_1 G_d hr)) (pss_cons (ps_set (i := 2) sc_d.nd rfl (Or.inl rfl) (pe_lst pa_nil)) (pss_cons (ps_while PassesOwn.never (pt_cmpR op_lt (pe_callB call_len_seq rfl n_0 PySem.boot_len (pa_cons (pv 2) pa_nil)) (pv 1) (nomark _)) (pss_one (ps_expr (pe_bm PySem.F.plainAttrs_list PySem.F.slot_list_append PySem.F.type_list_append mt_append (pv 2) (pa_cons (pe_m0 (pv 0) c_1 G_d hr) pa_nil))))) (pss_one (ps_ret (pv 2)))))), ?_⟩
  obtain ⟨r, dr, l, ns, row, t, i, rfl, hr', hS, hd, hlen, k⟩ := h
  have hz := drop_get hd
  have hd1 := drop_next hd
  refine ⟨_, rfl, r, dr, _, rfl, hr', rn_no _ _, r, dr, l, ns, i, _, rfl, hr', hS, hz, ?_⟩
  have S1 := sql_upd (o := .ins C_3 dr (rF l ((i + 1 : Nat) : Int))) hS hr'
  refine ⟨(by show 0 ≤ sizeLine; decide), fun p hp => ?_⟩
  have hpn : H p = none := by
    cases e : H p with
    | none => rfl
    | some u =>
      by_cases z : p = r
      · rw [z, upd_same] at hp; cases hp
      · rw [upd_ne z, e] at hp; cases hp
  have npr : r ≠ p := ne_of_none hr' hpn
  refine ⟨fun μ σ H2 => ∃ j : Nat, μ = row.length - j ∧ j ≤ row.length ∧ σ = [some (.ref r), some (.int (row.length : Int)), some (.ref p)] ∧ H2 r = some (.ins C_3 dr (rF l ((i + 1 + j : Nat) : Int))) ∧ H2 p = some (.lst ((row.take j).map V.int)) ∧ ∀ b o, H b = some o → b ≠ r → H2 b = some o, ⟨_, 0, rfl, Nat.zero_le _, rfl, (by rw [upd_ne npr]; exact upd_same), upd_same, fun b o e hb => by rw [upd_ne (ne_of_none e hpn), upd_ne hb]; exact e⟩, ?_⟩
  rintro μ σ H2 ⟨j, rfl, hj, rfl, hr2, hp2, kp⟩
  have S2 := sql_keep hS hr' kp
  refine ⟨_, rfl, p, _, rfl, .inl (SqL.of hp2), _, rfl, _, _, rfl, rfl, _, rfl, ?_⟩
  have hl2 : ((row.take j).map V.int).length = j := by rw [List.length_map, List.length_take]; omega
  refine ite2 (fun c => ?_) fun c => ?_
  · have c' : j < row.length := by have := of_decide_eq_true c; rw [hl2] at this; omega
    refine ⟨fun σ' H' => ∃ j' : Nat, row.length - j' < row.length - j ∧ j' ≤ row.length ∧ σ' = [some (.ref r), some (.int (row.length : Int)), some (.ref p)] ∧ H' r = some (.ins C_3 dr (rF l ((i + 1 + j' : Nat) : Int))) ∧ H' p = some (.lst ((row.take j').map V.int)) ∧ ∀ b o, H b = some o → b ≠ r → H' b = some o, fun σ' H' ⟨j', h1, h2, h3, h4, h5, h6⟩ => ⟨_, h1, j', rfl, h2, h3, h4, h5, h6⟩, ?_⟩
    have hrow : row[j]? = some row[j] := List.getElem?_eq_getElem c'
    have hnj : ns[i + 1 + j]? = some row[j] := by
      have e : (ns.drop (i + 1))[j]? = some row[j] := by rw [hd1, List.getElem?_append_left c']; exact hrow
      rw [List.getElem?_drop] at e; exact e
    refine ⟨_, rfl, .inl ⟨rfl, _, SqL.of hp2⟩, _, rfl, r, dr, _, rfl, hr2, rn_no _ _, r, dr, l, ns, i + 1 + j, row[j], rfl, hr2, S2, hnj, ?_⟩
    refine ⟨p, _, _, rfl, rfl, (by rw [upd_ne npr.symm]; exact hp2), (by rw [hl2]; exact Nat.lt_of_lt_of_le (show j < 16000 by omega) (by decide)), ?_⟩
    refine ⟨j + 1, by omega, by omega, rfl, (by rw [upd_ne npr]; exact upd_same), ?_, fun b o e hb => ?_⟩
    · rw [upd_same, take_snoc hrow, List.map_append]; rfl
    · rw [upd_ne (ne_of_none e hpn), upd_ne hb]; exact kp b o e hb
  · have c' : ¬ j < row.length := fun z => c (decide_eq_true (by rw [hl2]; omega))
    have ej : j = row.length := by omega
    subst ej
    rw [List.take_of_length_le (Nat.le_refl _)] at hp2
    exact ⟨_, rfl, k p H2 hpn hr2 hp2 kp⟩
end
end Sp8
end
section
namespace Sp8
open PySem PySem.Spec PyProof.Rows L2
open Sg08 (Alu WORD Instr Machine)
def Scr (K : PySem.W.Frag) (H : Hp) (l : Addr) (xs : List V) : Prop :=
  (∃ o, H l = some (.frz o (.lst xs))) ∨ ∃ (o : Obj) (its : Array Value) (n : Nat), K.lookup l = some o ∧ o.cls = .type "list" ∧ o.dict = none ∧ o.data = .seq its n ∧ its.size ≤ sizeLine ∧ Vals xs its.toList
theorem Scr.sq {K : PySem.W.Frag} {H : Hp} {l : Addr} {xs : List V} (h : Scr K H l xs) : SqL K H l xs := by
  rcases h with ⟨o, h⟩ | h
  · exact .inl (.inr ⟨o, h⟩)
  · exact .inr h
structure DAt (K : PySem.W.Frag) (CM CE CI CR : Addr) (H : Hp) (a : Ad) (m : Machine) (r dr l : Addr) (ns : List Int) (i : Nat) : Prop where
  M : MAt CM CE CI H a m
  R : H r = some (.ins CR dr (rF l ((i : Nat) : Int)))
  S : Scr K H l (ns.map V.int)
def Frd (a : Ad) (r : Addr) (H H' : Hp) : Prop := ∀ b o, H b = some o → b ≠ a.x → b ≠ a.cells → b ≠ a.regs → b ≠ a.known → b ≠ r → H' b = some o
section
variable {K : PySem.W.Frag} {CM CE CI CR : Addr} {H H' H1 : Hp} {a : Ad} {m m' : Machine} {r dr l p : Addr} {ns : List Int} {i : Nat} {Q : VK}
theorem rF_ne_mF (l : Addr) (i : Int) (a : Ad) (pc why : Int) : rF l i ≠ mF a pc why := fun e => by have := congrArg List.length e; simp [rF, mF] at this
theorem rF_ne_memF (l : Addr) (i : Int) (c : Addr) : rF l i ≠ memF c := fun e => by have := congrArg List.length e; simp [rF, memF] at this
theorem rF_ne_insF (l : Addr) (i : Int) (j : Ins) : rF l i ≠ insF j := fun e => by have := congrArg List.length e; simp [rF, insF] at this
theorem MAt.nr {i : Int} (M : MAt CM CE CI H a m) (h : H r = some (.ins CR dr (rF l i))) : r ≠ a.x ∧ r ≠ a.mem ∧ r ≠ a.cells ∧ r ≠ a.regs ∧ r ≠ a.known := by
  obtain ⟨_, e, _⟩ := M.kn
  exact ⟨ne_of h M.ob (by intro z; injection z with _ _ z; exact rF_ne_mF _ _ _ _ _ z), ne_of h M.me (by intro z; injection z with _ _ z; exact rF_ne_memF _ _ _ z), ne_of h M.ce (by intro z; cases z), ne_of h M.re (by intro z; cases z), ne_of h e (by intro z; cases z)⟩
theorem MAt.keepR {i : Int} (M : MAt CM CE CI H a m) (h : H r = some (.ins CR dr (rF l i))) (k : ∀ b o, H b = some o → b ≠ r → H' b = some o) : MAt CM CE CI H' a m := by
  obtain ⟨n1, n2, n3, n4, n5⟩ := M.nr h
  obtain ⟨kvs, e, f⟩ := M.kn
  refine ⟨k _ _ M.ob n1.symm, k _ _ M.me n2.symm, k _ _ M.ce n3.symm, k _ _ M.re n4.symm, ⟨kvs, k _ _ e n5.symm, fun q hq => ?_⟩, M.wh⟩
  obtain ⟨w, q', dx, h1, h2, h3⟩ := f q hq
  exact ⟨w, q', dx, h1, h2, k _ _ h3 (ne_of h3 h (by intro z; injection z with _ _ z; exact rF_ne_insF _ _ _ z.symm))⟩
theorem Scr.keep {xs : List V} (S : Scr K H l xs) (k : ∀ b o, H b = some o → (∃ u, o = .frz u (.lst xs)) → H' b = some o) : Scr K H' l xs := by
  rcases S with ⟨o, h⟩ | h
  · exact .inl ⟨o, k _ _ h ⟨o, rfl⟩⟩
  · exact .inr h
theorem frd_frz {xs : List V} {u : Obj} {b : Addr} {i : Int} (M : MAt CM CE CI H a m) (hr : H r = some (.ins CR dr (rF l i))) (f : Frd a r H H') (h : H b = some (.frz u (.lst xs))) : H' b = some (.frz u (.lst xs)) := by
  obtain ⟨_, e, _⟩ := M.kn
  exact f b _ h (ne_of h M.ob (by intro z; cases z)) (ne_of h M.ce (by intro z; cases z)) (ne_of h M.re (by intro z; cases z)) (ne_of h e (by intro z; cases z)) (ne_of h hr (by intro z; cases z))
theorem DAt.read (D : DAt K CM CE CI CR H a m r dr l ns i) (j : Nat) : DAt K CM CE CI CR (upd H r (.ins CR dr (rF l ((j : Nat) : Int)))) a m r dr l ns j := by
  have k : ∀ b o, H b = some o → b ≠ r → upd H r (.ins CR dr (rF l ((j : Nat) : Int))) b = some o := fun b o e hb => by rw [upd_ne hb]; exact e
  exact ⟨D.M.keepR D.R k, upd_same, D.S.keep fun b o e ⟨u, hu⟩ => k b o e (ne_of e D.R (by intro z; rw [hu] at z; cases z))⟩
theorem Frd.refl (a : Ad) (r : Addr) (H : Hp) : Frd a r H H := fun _ _ e _ _ _ _ _ => e
theorem Frd.trans {H2 : Hp} (f : Frd a r H H1) (g : Frd a r H1 H2) : Frd a r H H2 := fun b o e h1 h2 h3 h4 h5 => g b o (f b o e h1 h2 h3 h4 h5) h1 h2 h3 h4 h5
theorem Frd.upd (a : Ad) (r : Addr) (H : Hp) (o : HO) : Frd a r H (L2.upd H r o) := fun b u e _ _ _ _ h5 => by rw [upd_ne h5]; exact e
theorem Frd.of (f : Frm a H H1) : Frd a r H H1 := fun b o e h1 h2 h3 h4 _ => f b o e h1 h2 h3 h4
def RetB (CM CE CI CR : Addr) (a : Ad) (r dr l : Addr) (H : Hp) (Q : VK) (m' : Machine) (i' : Nat) (ys : List Int) : Prop :=
  ∀ (p : Addr) (H' : Hp), H p = none → MAt CM CE CI H' a m' → H' r = some (.ins CR dr (rF l ((i' : Nat) : Int))) → Frd a r H H' → H' p = some (.lst (ys.map V.int)) → Q (.ref p) H'
theorem RetB.of {j : Nat} {ys : List Int} (q : RetB CM CE CI CR a r dr l H Q m' j ys) (M1 : MAt CM CE CI H1 a m) (R1 : H1 r = some (.ins CR dr (rF l ((j : Nat) : Int)))) (f1 : Frd a r H H1) (o1 : Old H H1) : RetA CM CE CI a H1 Q m' ys := fun p H' hp M' f hl => by
  obtain ⟨n1, n2, n3, n4, n5⟩ := M1.nr R1
  exact q p H' (o1 p hp) M' (f r _ R1 n1 n3 n4 n5) (f1.trans (Frd.of f)) hl
end
abbrev PA_ := List Int → List (List Int) → Nat → Prop
def spA (K : PySem.W.Frag) (CM CE CI CR : Addr) (P : PA_) : Sp := fun vs H Q _ => ∃ (a : Ad) (m : Machine) (r dr l : Addr) (ns : List Int) (i n : Nat) (c : List (List Int)), vs = [.ref a.x, .ref r] ∧ DAt K CM CE CI CR H a m r dr l ns i ∧ P (ns.drop i) c n ∧
  RetB CM CE CI CR a r dr l H Q (Sg08Neutral.step m c).1 (i + n) (Sg08Neutral.step m c).2
theorem spA_len {K : PySem.W.Frag} {CM CE CI CR : Addr} {P : PA_} {x y : Str} : ∀ vs H Q E, spA K CM CE CI CR P vs H Q E → vs.length = [x, y].length := fun vs H Q E h => by obtain ⟨_, _, _, _, _, _, _, _, _, rfl, _⟩ := h; rfl
def PGet : PA_ := fun rest c n => ∃ y t, rest = y :: t ∧ c = [[4, y]] ∧ n = 1
def PSet : PA_ := fun rest c n => ∃ y z t, rest = y :: z :: t ∧ 0 ≤ z ∧ z < 18446744073709551616 ∧ c = [[3, y, z]] ∧ n = 2
def PTake : PA_ := fun rest c n => ∃ y z t, rest = y :: z :: t ∧ c = [[2, y, z]] ∧ n = 2
def PRun : PA_ := fun rest c n => ∃ y t, rest = y :: t ∧ c = [[5, y]] ∧ n = 1
def PPut : PA_ := fun rest c n => ∃ y row t, rest = y :: (row.length : Int) :: (row ++ t) ∧ (∀ z ∈ row, 0 ≤ z ∧ z < 256) ∧ row.length ≤ 16000 ∧ c = [[1, y], row] ∧ n = 2 + row.length
def PCall : PA_ := fun rest c n => ∃ t, Next rest c t ∧ rest.length = n + t.length ∧ rest.length ≤ 16000
theorem m_no (a : Ad) (pc why : Int) {x : Str} (h : x = "put" ∨ x = "take" ∨ x = "set_value" ∨ x = "get_value" ∨ x = "run" ∨ x = "why") : (mF a pc why).lookup x = none := by
  rcases h with rfl | rfl | rfl | rfl | rfl | rfl <;> exact mF_no _ _ _ (by decide +kernel) (by decide +kernel) (by decide +kernel) (by decide +kernel) (by decide +kernel)
theorem old_upd {H : Hp} {x : Addr} {o : HO} : Old H (upd H x o) := fun b h => by
  by_cases e : b = x
  · rw [e, upd_same] at h; cases h
  · rw [upd_ne e] at h; exact h
theorem Old.trans {H H1 H2 : Hp} (f : Old H H1) (g : Old H1 H2) : Old H H2 := fun b h => f b (g b h)
end Sp8
end
section
namespace Sp8
open PySem PySem.Spec PyProof.Rows L2
open Sg08 (Alu WORD Machine Instr)
section
variable {P : Program} {w : World} {K : PySem.W.Frag} {mg : Str → Option Value} {base : Heap}
theorem sc_e : FnScope ["machine", "reader", "place", "row"] ["machine", "reader"] (defScope (top 188)) := ⟨rfl, rfl, rfl, by decide +kernel, rfl, by decide +kernel, by decide +kernel⟩
theorem ok_2b {f_1R C_2 C_1 C_0 C_3 : Addr} (D : Def K "answer_put" "answer_put" (top 188) ["machine", "reader"] f_1R) (c_0 : Cls K C_2) (G_21 : OkM P w K mg base 2 C_2 "put" ["self", "place", "row"] (spPut K C_2 C_1 C_0)) (c_1 : Cls K C_3) (G_22 : OkM P w K mg base 2 C_3 "read_row" ["self"] (spReadRow K C_3)) (G_d : OkM P w K mg base 1 C_3 "read_number" ["self"] (spRead K C_3)) : Ok P w K mg base 3 f_1R ["machine", "reader"] (spA K C_2 C_1 C_0 C_3 PPut) := by
  refine D.ok sc_e spA_len fun cdv A outer s H vs Q E hr h => ?_
  refine ⟨_, (pss_cons (ps_set (i := 2) sc_e.nd rfl (Or.inl rfl) (pe_m0 (pv 1) c_1 G_d hr)) (pss_cons (ps_set (i := 3) sc_e.nd rfl (Or.inl rfl) (pe_m0 (pv 1) c_1 G_22 hr)) (pss_one (ps_ret (pe_m (pv 0) c_0 G_21 hr (pa_cons (pv 2) (pa_cons (pv 3) pa_nil))))))), ?_⟩
  obtain ⟨a, m, r, dr, l, ns, i, n, c, rfl, D0, hP, q⟩ := h
  obtain ⟨y, row, t, hd, hB, hl, rfl, rfl⟩ := hP
  have D1 := D0.read (i + 1)
  have hd1 := drop_next hd
  refine ⟨_, rfl, r, dr, _, rfl, D0.R, rn_no _ _, r, dr, l, ns, i, _, rfl, D0.R, D0.S.sq, drop_get hd, _, rfl, r, dr, _, rfl, D1.R, rr_no _ _, r, dr, l, ns, row, t, i + 1, rfl, D1.R, D1.S.sq, hd1, hl, fun p H2 hp hr2 hp2 k2 => ?_⟩
  have M2 := D1.M.keepR D1.R k2
  have n2 := M2.nr hr2
  obtain ⟨kvs, ek, _⟩ := M2.kn
  have hp0 : H p = none := old_upd p hp
  have o2 : Old (upd H r (.ins C_3 dr (rF l ((i + 1 : Nat) : Int)))) H2 := fun b h => by
    cases e : upd H r (.ins C_3 dr (rF l ((i + 1 : Nat) : Int))) b with
    | none => rfl
    | some u =>
      by_cases z : b = r
      · rw [z, hr2] at h; cases h
      · rw [k2 b u e z] at h; cases h
  have ne1 : ∀ b : Addr, H b ≠ none → p ≠ b := fun b hb e => hb (by rw [← e]; exact hp0)
  refine ⟨_, rfl, a.x, a.dx, _, rfl, M2.ob, m_no _ _ _ (by simp), _, rfl, _, rfl, a, m, y, p, row, rfl, M2, hp2, ne1 _ (by rw [D0.M.ce]; simp), ne1 _ (by rw [D0.M.ob]; simp), ne1 _ (by rw [D0.M.re]; simp), ne1 _ (by obtain ⟨_, e, _⟩ := D0.M.kn; rw [e]; simp), hB, ?_⟩
  refine RetB.of (j := i + (2 + row.length)) q M2 (by rw [hr2]; congr 3; omega) ((Frd.upd _ _ _ _).trans fun b o e _ _ _ _ h5 => k2 b o e h5) (old_upd.trans o2)
theorem sc_f : FnScope ["machine", "reader", "place", "n"] ["machine", "reader"] (defScope (top 189)) := ⟨rfl, rfl, rfl, by decide +kernel, rfl, by decide +kernel, by decide +kernel⟩
theorem ok_2c {f_1S C_2 C_1 C_0 C_3 : Addr} (D : Def K "answer_take" "answer_take" (top 189) ["machine", "reader"] f_1S) (c_0 : Cls K C_2) (G_23 : OkM P w K mg base 2 C_2 "take" ["self", "place", "n"] (spM2 C_2 C_1 C_0 (fun y z => [[2, y, z]]) fun _ _ => True)) (c_1 : Cls K C_3) (G_d : OkM P w K mg base 1 C_3 "read_number" ["self"] (spRead K C_3)) : Ok P w K mg base 3 f_1S ["machine", "reader"] (spA K C_2 C_1 C_0 C_3 PTake) := by
  refine D.ok sc_f spA_len fun cdv A outer s H vs Q E hr h => ?_
  refine ⟨_, (pss_cons (ps_set (i := 2) sc_f.nd rfl (Or.inl rfl) (pe_m0 (pv 1) c_1 G_d hr)) (pss_cons (ps_set (i := 3) sc_f.nd rfl (Or.inl rfl) (pe_m0 (pv 1) c_1 G_d hr)) (pss_one (ps_ret (pe_m (pv 0) c_0 G_23 hr (pa_cons (pv 2) (pa_cons (pv 3) pa_nil))))))), ?_⟩
  obtain ⟨a, m, r, dr, l, ns, i, n, c, rfl, D0, hP, q⟩ := h
  obtain ⟨y, z, t, hd, rfl, rfl⟩ := hP
  have D1 := D0.read (i + 1)
  have D2 := D1.read (i + 2)
  have hd1 := drop_next hd
  exact ⟨_, rfl, r, dr, _, rfl, D0.R, rn_no _ _, r, dr, l, ns, i, _, rfl, D0.R, D0.S.sq, drop_get hd, _, rfl, r, dr, _, rfl, D1.R, rn_no _ _, r, dr, l, ns, (i + 1), _, rfl, D1.R, D1.S.sq, drop_get hd1, _, rfl, a.x, a.dx, _, rfl, D2.M.ob, m_no _ _ _ (by simp), _, rfl, _, rfl, a, m, y, z, rfl, D2.M, trivial, q.of D2.M D2.R ((Frd.upd _ _ _ _).trans (Frd.upd _ _ _ _)) (old_upd.trans old_upd)⟩
theorem sc_g : FnScope ["machine", "reader", "which", "value"] ["machine", "reader"] (defScope (top 190)) := ⟨rfl, rfl, rfl, by decide +kernel, rfl, by decide +kernel, by decide +kernel⟩
theorem ok_2d {f_1T C_2 C_1 C_0 C_3 : Addr} (D : Def K "answer_set" "answer_set" (top 190) ["machine", "reader"] f_1T) (c_0 : Cls K C_2) (G_24 : OkM P w K mg base 2 C_2 "set_value" ["self", "which", "value"] (spM2 C_2 C_1 C_0 (fun y z => [[3, y, z]]) fun _ z => 0 ≤ z ∧ z < 18446744073709551616)) (c_1 : Cls K C_3) (G_d : OkM P w K mg base 1 C_3 "read_number" ["self"] (spRead K C_3)) : Ok P w K mg base 3 f_1T ["machine", "reader"] (spA K C_2 C_1 C_0 C_3 PSet) := by
  refine D.ok sc_g spA_len fun cdv A outer s H vs Q E hr h => ?_
  refine ⟨_, (pss_cons (ps_set (i := 2) sc_g.nd rfl (Or.inl rfl) (pe_m0 (pv 1) c_1 G_d hr)) (pss_cons (ps_set (i := 3) sc_g.nd rfl (Or.inl rfl) (pe_m0 (pv 1) c_1 G_d hr)) (pss_one (ps_ret (pe_m (pv 0) c_0 G_24 hr (pa_cons (pv 2) (pa_cons (pv 3) pa_nil))))))), ?_⟩
  obtain ⟨a, m, r, dr, l, ns, i, n, c, rfl, D0, hP, q⟩ := h
  obtain ⟨y, z, t, hd, hz0, hz1, rfl, rfl⟩ := hP
  have D1 := D0.read (i + 1)
  have D2 := D1.read (i + 2)
  have hd1 := drop_next hd
  exact ⟨_, rfl, r, dr, _, rfl, D0.R, rn_no _ _, r, dr, l, ns, i, _, rfl, D0.R, D0.S.sq, drop_get hd, _, rfl, r, dr, _, rfl, D1.R, rn_no _ _, r, dr, l, ns, (i + 1), _, rfl, D1.R, D1.S.sq, drop_get hd1, _, rfl, a.x, a.dx, _, rfl, D2.M.ob, m_no _ _ _ (by simp), _, rfl, _, rfl, a, m, y, z, rfl, D2.M, ⟨hz0, hz1⟩, q.of D2.M D2.R ((Frd.upd _ _ _ _).trans (Frd.upd _ _ _ _)) (old_upd.trans old_upd)⟩
theorem sc_C : FnScope ["machine", "reader", "which"] ["machine", "reader"] (defScope (top 191)) := ⟨rfl, rfl, rfl, by decide +kernel, rfl, by decide +kernel, by decide +kernel⟩
theorem ok_2e {f_1U C_2 C_1 C_0 C_3 : Addr} (D : Def K "answer_get" "answer_get" (top 191) ["machine", "reader"] f_1U) (c_0 : Cls K C_2) (G_25 : OkM P w K mg base 1 C_2 "get_value" ["self", "which"] (spM1 C_2 C_1 C_0 (fun y => [[4, y]]) fun _ => True)) (c_1 : Cls K C_3) (G_d : OkM P w K mg base 1 C_3 "read_number" ["self"] (spRead K C_3)) : Ok P w K mg base 2 f_1U ["machine", "reader"] (spA K C_2 C_1 C_0 C_3 PGet) := by
  refine D.ok sc_C spA_len fun cdv A outer s H vs Q E hr h => ?_
  refine ⟨_, (pss_cons (ps_set (i := 2) sc_C.nd rfl (Or.inl rfl) (pe_m0 (pv 1) c_1 G_d hr)) (pss_one (ps_ret (pe_m (pv 0) c_0 G_25 hr (pa_cons (pv 2) pa_nil))))), ?_⟩
  obtain ⟨a, m, r, dr, l, ns, i, n, c, rfl, D0, hP, q⟩ := h
  obtain ⟨y, t, hd, rfl, rfl⟩ := hP
  have D1 := D0.read (i + 1)
  exact ⟨_, rfl, r, dr, _, rfl, D0.R, rn_no _ _, r, dr, l, ns, i, _, rfl, D0.R, D0.S.sq, drop_get hd, _, rfl, a.x, a.dx, _, rfl, D1.M.ob, m_no _ _ _ (by simp), _, rfl, a, m, y, rfl, D1.M, trivial, q.of D1.M D1.R (Frd.upd _ _ _ _) old_upd⟩
theorem sc_D : FnScope ["machine", "reader", "steps"] ["machine", "reader"] (defScope (top 192)) := ⟨rfl, rfl, rfl, by decide +kernel, rfl, by decide +kernel, by decide +kernel⟩
theorem ok_2f {f_1V C_2 C_1 C_0 C_3 : Addr} (D : Def K "answer_run" "answer_run" (top 192) ["machine", "reader"] f_1V) (c_0 : Cls K C_2) (G_26 : OkM P w K mg base 11 C_2 "run" ["self", "steps"] (spM1 C_2 C_1 C_0 (fun y => [[5, y]]) fun _ => True)) (c_1 : Cls K C_3) (G_d : OkM P w K mg base 1 C_3 "read_number" ["self"] (spRead K C_3)) : Ok P w K mg base 12 f_1V ["machine", "reader"] (spA K C_2 C_1 C_0 C_3 PRun) := by
  refine D.ok sc_D spA_len fun cdv A outer s H vs Q E hr h => ?_
  refine ⟨_, (pss_cons (ps_set (i := 2) sc_D.nd rfl (Or.inl rfl) (pe_m0 (pv 1) c_1 G_d hr)) (pss_one (ps_ret (pe_m (pv 0) c_0 G_26 hr (pa_cons (pv 2) pa_nil))))), ?_⟩
  obtain ⟨a, m, r, dr, l, ns, i, n, c, rfl, D0, hP, q⟩ := h
  obtain ⟨y, t, hd, rfl, rfl⟩ := hP
  have D1 := D0.read (i + 1)
  exact ⟨_, rfl, r, dr, _, rfl, D0.R, rn_no _ _, r, dr, l, ns, i, _, rfl, D0.R, D0.S.sq, drop_get hd, _, rfl, a.x, a.dx, _, rfl, D1.M.ob, m_no _ _ _ (by simp), _, rfl, a, m, y, rfl, D1.M, trivial, q.of D1.M D1.R (Frd.upd _ _ _ _) old_upd⟩
theorem sc_E : FnScope ["machine", "reader", "call"] ["machine", "reader"] (defScope (top 193)) := ⟨rfl, rfl, rfl, by decide +kernel, rfl, by decide +kernel, by decide +kernel⟩
theorem ok_2g {f_1W C_2 C_1 C_0 f_1V C_3 f_1U f_1T f_1S f_1R : Addr} {t_h t_i t_j t_k t_l t_m : Tok} (D : Def K "answer_call" "answer_call" (top 193) ["machine", "reader"] f_1W) (m_1w : mg "WHY" = some (.int 6 t_h)) (c_0 : Cls K C_2) (G_27 : OkM P w K mg base 1 C_2 "why" ["self"] (spM0 C_2 C_1 C_0 [[6]])) (m_1x : mg "RUN" = some (.int 5 t_i)) (m_1y : mg "answer_run" = some (.ref f_1V)) (G_28 : Ok P w K mg base 12 f_1V ["machine", "reader"] (spA K C_2 C_1 C_0 C_3 PRun)) (m_1z : mg "GET" = some (.int 4 t_j)) (m_1A : mg "answer_get" = some (.ref f_1U)) (G_29 : Ok P w K mg base 2 f_1U ["machine", "reader"] (spA K C_2 C_1 C_0 C_3 PGet)) (m_1B : mg "SET" = some (.int 3 t_k)) (m_1C : mg "answer_set" = some (.ref f_1T)) (G_2a : Ok P w K mg base 3 f_1T ["machine", "reader"] (spA K C_2 C_1 C_0 C_3 PSet)) (m_1D : mg "TAKE" = some (.int 2 t_l)) (m_1E : mg "answer_take" = some (.ref f_1S)) (G_2b : Ok P w K mg base 3 f_1S ["machine", "reader"] (spA K C_2 C_1 C_0 C_3 PTake)) (m_1F : mg "PUT" = some (.int 1 t_m)) (m_1G : mg "answer_put" = some (.ref f_1R)) (G_2c : Ok P w K mg base 3 f_1R ["machine", "reader"] (spA K C_2 C_1 C_0 C_3 PPut)) (c_1 : Cls K C_3) (G_d : OkM P w K mg base 1 C_3 "read_number" ["self"] (spRead K C_3)) : Ok P w K mg base 13 f_1W ["machine", "reader"] (spA K C_2 C_1 C_0 C_3 PCall) := by
  refine D.ok sc_E spA_len fun cdv A outer s H vs Q E hr h => ?_
  refine ⟨_, (pss_cons (ps_set (i := 2) sc_E.nd rfl (Or.inl rfl) (pe_m0 (pv 1) c_1 G_d hr)) (pss_cons (ps_if (pt_cmpR op_eq (pv 2) (pe_glob (v := .int 1) rfl m_1F ⟨_, rfl⟩) (nomark _)) (pss_one (ps_ret (pe_g m_1G G_2c hr (pa_cons (pv 0) (pa_cons (pv 1) pa_nil))))) pss_nil) (pss_cons (ps_if (pt_cmpR op_eq (pv 2) (pe_glob (v := .int 2) rfl m_1D ⟨_, rfl⟩) (nomark _)) (pss_one (ps_ret (pe_g m_1E G_2b hr (pa_cons (pv 0) (pa_cons (pv 1) pa_nil))))) pss_nil) (pss_cons (ps_if (pt_cmpR op_eq (pv 2) (pe_glob (v := .int 3) rfl m_1B ⟨_, rfl⟩) (nomark _)) (pss_one (ps_ret (pe_g m_1C G_2a hr (pa_cons (pv 0) (pa_cons (pv 1) pa_nil))))) pss_nil) (pss_cons (ps_if (pt_cmpR op_eq (pv 2) (pe_glob (v := .int 4) rfl m_1z ⟨_, rfl⟩) (nomark _)) (pss_one (ps_ret (pe_g m_1A G_29 hr (pa_cons (pv 0) (pa_cons (pv 1) pa_nil))))) pss_nil) (pss_cons (ps_if (pt_cmpR op_eq (pv 2) (pe_glob (v := .int 5) rfl m_1x ⟨_, rfl⟩) (nomark _)) (pss_one (ps_ret (pe_g m_1y G_28 hr (pa_cons (pv 0) (pa_cons (pv 1) pa_nil))))) pss_nil) (pss_cons (ps_if (pt_cmpR op_eq (pv 2) (pe_glob (v := .int 6) rfl m_1w ⟨_, rfl⟩) (nomark _)) (pss_one (ps_ret (pe_m0 (pv 0) c_0 G_27 hr))) pss_nil) (pss_one ps_never)))))))), ?_⟩
  obtain ⟨a, m, r, dr, l, ns, i, n, c, rfl, D0, hP, q⟩ := h
  obtain ⟨t, hN, hlen, h16⟩ := hP
  generalize hd : ns.drop i = rest at hN hlen h16
  have D1 := D0.read (i + 1)
  have qof : ∀ {m' : Machine} {k : Nat} {ys : List Int}, RetB C_2 C_1 C_0 C_3 a r dr l H Q m' (i + k) ys → (k = n) → True := fun _ _ => trivial
  cases hN with
  | put y row t h1 h2 =>
    have hd1 := drop_next hd
    have en : n = 1 + (2 + row.length) := by simp at hlen; omega
    subst en
    have q' : RetB C_2 C_1 C_0 C_3 a r dr l (upd H r (.ins C_3 dr (rF l ((i + 1 : Nat) : Int)))) Q _ (i + 1 + (2 + row.length)) _ := fun p H' hp M' R' f hl => q p H' (old_upd p hp) M' (by rw [show i + (1 + (2 + row.length)) = i + 1 + (2 + row.length) by omega]; exact R') ((Frd.upd _ _ _ _).trans f) hl
    exact ⟨_, rfl, r, dr, _, rfl, D0.R, rn_no _ _, r, dr, l, ns, i, _, rfl, D0.R, D0.S.sq, drop_get hd, _, rfl, rfl, _, rfl, iteT ⟨_, rfl, _, rfl, a, m, r, dr, l, ns, i + 1, _, _, rfl, D1, ⟨y, row, t, hd1, h2, by simp at h16; omega, rfl, rfl⟩, q'⟩⟩
  | take y z t h1 h2 h3 =>
    have hd1 := drop_next hd
    have en : n = 1 + 2 := by simp at hlen; omega
    subst en
    have q' : RetB C_2 C_1 C_0 C_3 a r dr l (upd H r (.ins C_3 dr (rF l ((i + 1 : Nat) : Int)))) Q _ (i + 1 + 2) _ := fun p H' hp M' R' f hl => q p H' (old_upd p hp) M' (by rw [show i + (1 + 2) = i + 1 + 2 by omega]; exact R') ((Frd.upd _ _ _ _).trans f) hl
    exact ⟨_, rfl, r, dr, _, rfl, D0.R, rn_no _ _, r, dr, l, ns, i, _, rfl, D0.R, D0.S.sq, drop_get hd, _, rfl, rfl, _, rfl, iteF ⟨_, rfl, rfl, _, rfl, iteT ⟨_, rfl, _, rfl, a, m, r, dr, l, ns, i + 1, _, _, rfl, D1, ⟨y, z, t, hd1, rfl, rfl⟩, q'⟩⟩⟩
  | set y z t h1 h2 =>
    have hd1 := drop_next hd
    have en : n = 1 + 2 := by simp at hlen; omega
    subst en
    have q' : RetB C_2 C_1 C_0 C_3 a r dr l (upd H r (.ins C_3 dr (rF l ((i + 1 : Nat) : Int)))) Q _ (i + 1 + 2) _ := fun p H' hp M' R' f hl => q p H' (old_upd p hp) M' (by rw [show i + (1 + 2) = i + 1 + 2 by omega]; exact R') ((Frd.upd _ _ _ _).trans f) hl
    exact ⟨_, rfl, r, dr, _, rfl, D0.R, rn_no _ _, r, dr, l, ns, i, _, rfl, D0.R, D0.S.sq, drop_get hd, _, rfl, rfl, _, rfl, iteF ⟨_, rfl, rfl, _, rfl, iteF ⟨_, rfl, rfl, _, rfl, iteT ⟨_, rfl, _, rfl, a, m, r, dr, l, ns, i + 1, _, _, rfl, D1, ⟨y, z, t, hd1, h2.1, h2.2, rfl, rfl⟩, q'⟩⟩⟩⟩
  | get y t h1 =>
    have hd1 := drop_next hd
    have en : n = 1 + 1 := by simp at hlen; omega
    subst en
    have q' : RetB C_2 C_1 C_0 C_3 a r dr l (upd H r (.ins C_3 dr (rF l ((i + 1 : Nat) : Int)))) Q _ (i + 1 + 1) _ := fun p H' hp M' R' f hl => q p H' (old_upd p hp) M' (by rw [show i + (1 + 1) = i + 1 + 1 by omega]; exact R') ((Frd.upd _ _ _ _).trans f) hl
    exact ⟨_, rfl, r, dr, _, rfl, D0.R, rn_no _ _, r, dr, l, ns, i, _, rfl, D0.R, D0.S.sq, drop_get hd, _, rfl, rfl, _, rfl, iteF ⟨_, rfl, rfl, _, rfl, iteF ⟨_, rfl, rfl, _, rfl, iteF ⟨_, rfl, rfl, _, rfl, iteT ⟨_, rfl, _, rfl, a, m, r, dr, l, ns, i + 1, _, _, rfl, D1, ⟨y, t, hd1, rfl, rfl⟩, q'⟩⟩⟩⟩⟩
  | run y t h1 =>
    have hd1 := drop_next hd
    have en : n = 1 + 1 := by simp at hlen; omega
    subst en
    have q' : RetB C_2 C_1 C_0 C_3 a r dr l (upd H r (.ins C_3 dr (rF l ((i + 1 : Nat) : Int)))) Q _ (i + 1 + 1) _ := fun p H' hp M' R' f hl => q p H' (old_upd p hp) M' (by rw [show i + (1 + 1) = i + 1 + 1 by omega]; exact R') ((Frd.upd _ _ _ _).trans f) hl
    exact ⟨_, rfl, r, dr, _, rfl, D0.R, rn_no _ _, r, dr, l, ns, i, _, rfl, D0.R, D0.S.sq, drop_get hd, _, rfl, rfl, _, rfl, iteF ⟨_, rfl, rfl, _, rfl, iteF ⟨_, rfl, rfl, _, rfl, iteF ⟨_, rfl, rfl, _, rfl, iteF ⟨_, rfl, rfl, _, rfl, iteT ⟨_, rfl, _, rfl, a, m, r, dr, l, ns, i + 1, _, _, rfl, D1, ⟨y, t, hd1, rfl, rfl⟩, q'⟩⟩⟩⟩⟩⟩
  | why t =>
    have hd1 := drop_next hd
    have en : n = 1 + 0 := by simp at hlen; omega
    subst en
    have q' : RetB C_2 C_1 C_0 C_3 a r dr l (upd H r (.ins C_3 dr (rF l ((i + 1 : Nat) : Int)))) Q _ (i + 1 + 0) _ := fun p H' hp M' R' f hl => q p H' (old_upd p hp) M' (by rw [show i + (1 + 0) = i + 1 + 0 by omega]; exact R') ((Frd.upd _ _ _ _).trans f) hl
    exact ⟨_, rfl, r, dr, _, rfl, D0.R, rn_no _ _, r, dr, l, ns, i, _, rfl, D0.R, D0.S.sq, drop_get hd, _, rfl, rfl, _, rfl, iteF ⟨_, rfl, rfl, _, rfl, iteF ⟨_, rfl, rfl, _, rfl, iteF ⟨_, rfl, rfl, _, rfl, iteF ⟨_, rfl, rfl, _, rfl, iteF ⟨_, rfl, rfl, _, rfl, iteT ⟨_, rfl, a.x, a.dx, _, rfl, D1.M.ob, m_no _ _ _ (by simp), a, m, rfl, D1.M, q'.of D1.M D1.R (Frd.refl _ _ _) (fun _ z => z)⟩⟩⟩⟩⟩⟩⟩
end
end Sp8
end
section
namespace Sp8
open PySem PySem.Spec PyProof.Rows L2
open Sg08 (Alu WORD Instr Machine)
theorem MAt.keepQ {CM CE CI : Addr} {H H' : Hp} {a : Ad} {m : Machine} {q : Addr} {xs : List V} (M : MAt CM CE CI H a m) (n1 : q ≠ a.x) (n2 : q ≠ a.cells) (n3 : q ≠ a.regs) (n4 : q ≠ a.known) (h : H q = some (.lst xs)) (k : ∀ b o, H b = some o → b ≠ q → H' b = some o) : MAt CM CE CI H' a m := by
  obtain ⟨kvs, e, f⟩ := M.kn
  refine ⟨k _ _ M.ob n1.symm, k _ _ M.me (ne_of M.me h (by intro z; cases z)), k _ _ M.ce n2.symm, k _ _ M.re n3.symm, ⟨kvs, k _ _ e n4.symm, fun p hp => ?_⟩, M.wh⟩
  obtain ⟨w, q', dx, h1, h2, h3⟩ := f p hp
  exact ⟨w, q', dx, h1, h2, k _ _ h3 (ne_of h3 h (by intro z; cases z))⟩
def spMInit (CM CE CI : Addr) : Sp := fun vs H Q _ => ∃ (p dx : Addr), vs = [.ref p] ∧ H p = some (.ins CM dx []) ∧
  ∀ (a : Ad) (H' : Hp), a.x = p → MAt CM CE CI H' a Sg08.fresh → H a.cells = none → H a.regs = none → H a.known = none → (∀ b o, H b = some o → b ≠ p → H' b = some o) → Q .non H'
theorem spMInit_len {CM CE CI : Addr} {x : Str} : ∀ vs H Q E, spMInit CM CE CI vs H Q E → vs.length = [x].length := fun vs H Q E h => by obtain ⟨_, _, rfl, _⟩ := h; rfl
theorem mF_put (a : Ad) (pc why : Int) : putF "known_words" (.ref a.known) (putF "reason" (.int why) (putF "pc" (.int pc) (putF "registers" (.ref a.regs) (putF "memory" (.ref a.mem) [])))) = mF a pc why := by
  simp only [putF, mF, if_neg mk1, if_neg mk2, if_neg mk3, if_neg mk4, if_neg mk5, if_neg mk6, if_neg mk7, if_neg mk8, if_neg mk9, if_neg mk10]
def spAnswers (K : PySem.W.Frag) : Sp := fun vs H Q _ => ∃ (l : Addr) (ns : List Int), vs = [.ref l] ∧ Scr K H l (ns.map V.int) ∧ ns.length ≤ 16000 ∧ PySg08.answers_asked ns = true ∧
  ∀ (p : Addr) (H' : Hp), H' p = some (.lst ((PySg08.answers ns).map V.int)) → Same H H' → Q (.ref p) H'
theorem spAnswers_len {K : PySem.W.Frag} {x : Str} : ∀ vs H Q E, spAnswers K vs H Q E → vs.length = [x].length := fun vs H Q E h => by obtain ⟨_, _, rfl, _⟩ := h; rfl
theorem Next.parts {rest t : List Int} {c : List (List Int)} (h : Next rest c t) : ∃ pre, rest = pre ++ t ∧ 1 ≤ pre.length := by
  cases h with
  | put a row t h1 h2 => exact ⟨1 :: a :: (row.length : Int) :: row, by simp, by simp⟩
  | take a b t h1 h2 h3 => exact ⟨[2, a, b], rfl, by simp⟩
  | set a b t h1 h2 => exact ⟨[3, a, b], rfl, by simp⟩
  | get a t h1 => exact ⟨[4, a], rfl, by simp⟩
  | run a t h1 => exact ⟨[5, a], rfl, by simp⟩
  | why t => exact ⟨[6], rfl, by simp⟩
theorem ans_len {rest t : List Int} {c : List (List Int)} (h : Next rest c t) (m : Machine) : (Sg08Neutral.step m c).2.length ≤ 2001 := by
  cases h with
  | put a row t h1 h2 => rw [st_put]; split <;> simp
  | take a b t h1 h2 h3 =>
    rw [st_take]
    split
    · rename_i hf
      have hf := (fits_bool _ _).mp hf
      simp
      omega
    · simp
  | set a b t h1 h2 => rw [st_set]; split <;> (try split) <;> simp
  | get a t h1 => rw [st_get]; split <;> (try split) <;> simp
  | run a t h1 => rw [st_run]; split <;> simp
  | why t => rw [st_why]; simp
theorem drop_parts {ns pre t : List Int} {i : Nat} (h : ns.drop i = pre ++ t) : ns.drop (i + pre.length) = t := by
  rw [← List.drop_drop, h, List.drop_left]
end Sp8
end
section
namespace Sp8
open PySem PySem.Spec PyProof.Rows L2
open Sg08 (Alu WORD Machine Instr)
section
variable {P : Program} {w : World} {K : PySem.W.Frag} {mg : Str → Option Value} {base : Heap}
theorem sc_2i : FnScope ["self"] ["self"] (defScope (inClass (top 177) 0)) := ⟨rfl, rfl, rfl, by decide +kernel, rfl, by decide +kernel, by decide +kernel⟩
theorem ok_2h {f_me C_1 C_2 C_0 : Addr} {t_0 t_a : Tok} (D : Def K "__init__" "Machine.__init__" (inClass (top 177) 0) ["self"] f_me) (m_8 : mg "NOT_STOPPED" = some (.int 0 t_0)) (m_x : mg "REGISTER_COUNT" = some (.int 32 t_a)) (m_1H : mg "Memory" = some (.ref C_1)) (G_2d : OkC P w K mg base 1 C_1 ["self"] (spMemInit C_1)) (TM : MchC K C_2) : Ok P w K mg base 3 f_me ["self"] (spMInit C_2 C_1 C_0) := by
  refine D.ok sc_2i spMInit_len fun cdv A outer s H vs Q E hr h => ?_
  refine ⟨_, (pss_cons (ps_fld (pv 0) (pe_c0 m_1H G_2d hr) rfl) (pss_cons (ps_fld (pv 0) (pe_op op_rep (pe_lst (pa_cons pe_int pa_nil)) (pe_glob (v := .int 32) rfl m_x ⟨_, rfl⟩)) rfl) (pss_cons (ps_fld (pv 0) pe_int rfl) (pss_cons (ps_fld (pv 0) (pe_glob (v := .int 0) rfl m_8 ⟨_, rfl⟩) rfl) (pss_one (ps_fld (pv 0) pe_dnewK rfl)))))), ?_⟩
  obtain ⟨p, dx, rfl, hp, k⟩ := h
  have l0 : ([] : List (Str × V)).length ≤ 0 := Nat.le_refl _
  intro x d nx nd ndx
  refine ⟨x, d, rfl, upd_same, fun c H1 hc hx1 hc1 ncx kp => ⟨rfl, ?_⟩⟩
  have s1 : Same H H1 := Same.made nx nd kp
  have hp1 := s1 _ _ hp
  have hc0 : H c = none := by
    by_cases e1 : c = x
    · exact absurd e1 ncx
    · rw [upd_ne e1] at hc
      exact old_upd c hc
  refine ⟨_, rfl, p, _, dx, [], rfl, hp1, TM.cl, TM.n1, (by show 0 < 1000; decide), ?_⟩
  have npx : p ≠ x := ne_of_none hp nx
  have npc : p ≠ c := ne_of_none hp hc0
  refine ⟨(by show 1 ≤ sizeLine; decide), fun l1 hl1 => ⟨l1, 32, [.int 0], rfl, rfl, upd_same, by decide, by decide, (by show 1 * 32 ≤ sizeLine; decide), fun g hg => ?_⟩⟩
  have hl0 : H1 l1 = none := old_upd l1 hl1
  have hg1 : H1 g = none := old_upd g (old_upd g hg)
  have npl : p ≠ l1 := ne_of_none hp1 hl0
  have npg : p ≠ g := ne_of_none hp1 hg1
  refine ⟨_, rfl, p, _, dx, _, rfl, (by rw [upd_ne npg, upd_ne npl]; exact upd_same), TM.cl, TM.n2, Nat.lt_of_le_of_lt (putF_le l0) (by decide), ?_⟩
  refine ⟨_, rfl, p, _, dx, _, rfl, upd_same, TM.cl, TM.n3, Nat.lt_of_le_of_lt (putF_le (putF_le l0)) (by decide), ?_⟩
  refine ⟨_, rfl, p, _, dx, _, rfl, upd_same, TM.cl, TM.n4, Nat.lt_of_le_of_lt (putF_le (putF_le (putF_le l0))) (by decide), ?_⟩
  intro kd hkd
  have hk1 : H1 kd = none := by
    have := old_upd kd (old_upd kd (old_upd kd hkd))
    exact old_upd kd (old_upd kd (old_upd kd this))
  have npk : p ≠ kd := ne_of_none hp1 hk1
  refine ⟨_, rfl, p, _, dx, _, rfl, (by rw [upd_ne npk]; exact upd_same), TM.cl, TM.n5, Nat.lt_of_le_of_lt (putF_le (putF_le (putF_le (putF_le l0)))) (by decide), ?_⟩
  have nxl : x ≠ l1 := ne_of_none hx1 hl0
  have nxg : x ≠ g := ne_of_none hx1 hg1
  have nxk : x ≠ kd := ne_of_none hx1 hk1
  have ncl : c ≠ l1 := ne_of_none hc1 hl0
  have ncg : c ≠ g := ne_of_none hc1 hg1
  have nck : c ≠ kd := ne_of_none hc1 hk1
  have ngk : g ≠ kd := by
    refine ne_of_none (o := .lst (List.replicate (32 : Int).toNat [V.int 0]).flatten) ?_ hkd
    rw [upd_ne npg.symm, upd_ne npg.symm, upd_ne npg.symm, upd_same]
  refine k ⟨p, dx, x, d, c, g, kd⟩ _ rfl ⟨?_, ?_, ?_, ?_, ⟨[], ?_, fun q hq => by cases hq⟩, whole_fresh⟩ hc0 (s1.free hg1) (s1.free hk1) fun b o e hb => ?_
  · rw [upd_same]
    exact congrArg (fun q => some (HO.ins C_2 dx q)) (mF_put ⟨p, dx, x, d, c, g, kd⟩ 0 0)
  · rw [upd_ne npx.symm, upd_ne nxk, upd_ne npx.symm, upd_ne npx.symm, upd_ne npx.symm, upd_ne nxg, upd_ne nxl, upd_ne npx.symm]
    exact hx1
  · rw [upd_ne npc.symm, upd_ne nck, upd_ne npc.symm, upd_ne npc.symm, upd_ne npc.symm, upd_ne ncg, upd_ne ncl, upd_ne npc.symm]
    exact hc1
  · rw [upd_ne npg.symm, upd_ne ngk, upd_ne npg.symm, upd_ne npg.symm, upd_ne npg.symm, upd_same, zerosR]
    rfl
  · rw [upd_ne npk.symm, upd_same]
  · have e1 := s1 _ _ e
    rw [upd_ne hb, upd_ne (ne_of_none e1 hk1), upd_ne hb, upd_ne hb, upd_ne hb, upd_ne (ne_of_none e1 hg1), upd_ne (ne_of_none e1 hl0), upd_ne hb]
    exact e1
theorem sc_1 : FnScope ["calls", "machine", "reader", "answered", "answer"] ["calls"] (defScope (top 194)) := ⟨rfl, rfl, rfl, by decide +kernel, rfl, by decide +kernel, by decide +kernel⟩
theorem ok_2i {f_1X C_3 f_1W C_2 C_1 C_0 : Addr} (D : Def K "answers" "answers" (top 194) ["calls"] f_1X) (c_1 : Cls K C_3) (G_2e : OkM P w K mg base 1 C_3 "has_more" ["self"] (spMore K C_3)) (n_0 : mg "len" = none) (m_1I : mg "answer_call" = some (.ref f_1W)) (G_2f : Ok P w K mg base 13 f_1W ["machine", "reader"] (spA K C_2 C_1 C_0 C_3 PCall)) (m_1J : mg "Reader" = some (.ref C_3)) (G_2g : OkC P w K mg base 1 C_3 ["self", "numbers"] (spRInit C_3)) (m_1K : mg "Machine" = some (.ref C_2)) (G_2h : OkC P w K mg base 3 C_2 ["self"] (spMInit C_2 C_1 C_0)) (TX : InsC K C_0) : Ok P w K mg base 14 f_1X ["calls"] (spAnswers K) := by
  refine D.ok sc_1 spAnswers_len fun cdv A outer s H vs Q E hr h => ?_
  refine ⟨_, (pss_cons (ps_set (i := 1) sc_1.nd rfl (Or.inl rfl) (pe_c0 m_1K G_2h hr)) (pss_cons (ps_set (i := 2) sc_1.nd rfl (Or.inl rfl) (pe_c m_1J G_2g hr (pa_cons (pv 0) pa_nil))) (pss_cons (ps_set (i := 3) sc_1.nd rfl (Or.inl rfl) (pe_lst pa_nil)) (pss_cons (ps_while PassesOwn.never (pt_val (pe_m0 (pv 2) c_1 G_2e hr)) (pss_cons (ps_set (i := 4) sc_1.nd rfl (Or.inl rfl) (pe_g m_1I G_2f hr (pa_cons (pv 1) (pa_cons (pv 2) pa_nil)))) (pss_cons (ps_expr (pe_bm PySem.F.plainAttrs_list PySem.F.slot_list_append PySem.F.type_list_append mt_append (pv 3) (pa_cons (pe_callB call_len_seq rfl n_0 PySem.boot_len (pa_cons (pv 4) pa_nil)) pa_nil))) (pss_one (ps_expr (pe_bm PySem.F.plainAttrs_list PySem.F.slot_list_extend PySem.F.type_list_extend mt_extend (pv 3) (pa_cons (pv 4) pa_nil))))))) (pss_one (ps_ret (pv 3))))))), ?_⟩
  obtain ⟨l, ns, rfl, hS, h16, hask, k⟩ := h
  obtain ⟨cs0, hL0, hc400, hdue⟩ := start hask
  intro x d nx nd ndx
  refine ⟨x, d, rfl, upd_same, fun a H1 hax M1 nc nr nk kp => ⟨rfl, ?_⟩⟩
  subst hax
  have s1 : Same H H1 := Same.made nx nd kp
  have nc0 : H a.cells = none := old_upd _ (old_upd _ nc)
  have nr0 : H a.regs = none := old_upd _ (old_upd _ nr)
  have nk0 : H a.known = none := old_upd _ (old_upd _ nk)
  have S1 : Scr K H1 l (ns.map V.int) := hS.keep fun b o e _ => s1 b o e
  refine ⟨_, rfl, ?_⟩
  intro r dr n1 n2 n3
  refine ⟨r, dr, l, rfl, upd_same, fun H2 hr2 kp2 => ⟨rfl, ?_⟩⟩
  have s2 : Same H1 H2 := Same.made n1 n2 kp2
  refine ⟨(by show 0 ≤ sizeLine; decide), fun q hq => ?_⟩
  have M2 := M1.same s2
  have hrq : r ≠ q := ne_of_none hr2 hq
  have nr1 : H r = none := s1.free n1
  have nqc : q ≠ a.cells := (ne_of_none M2.ce hq).symm
  have nqr : q ≠ a.regs := (ne_of_none M2.re hq).symm
  have nq1 : H q = none := (s1.trans s2).free hq
  have D3 : DAt K C_2 C_1 C_0 C_3 (upd H2 q (.lst [])) a Sg08.fresh r dr l ns 0 := ⟨M2.laid hq, by rw [upd_ne hrq]; exact hr2, (S1.keep fun b o e _ => s2 b o e).keep fun b o e _ => same_laid hq b o e⟩
  refine ⟨fun μ σ H5 => ∃ (i : Nat) (m : Machine) (cs : List (List (List Int))) (acc : List Int) (v4 : Option V), μ = ns.length - i ∧ i ≤ ns.length ∧ σ = [some (.ref l), some (.ref a.x), some (.ref r), some (.ref q), v4] ∧ DAt K C_2 C_1 C_0 C_3 H5 a m r dr l ns i ∧ H5 q = some (.lst (acc.map V.int)) ∧ Left (ns.drop i) cs ∧ PySg08.answers ns = acc ++ due m cs ∧ acc.length + 2002 * cs.length ≤ 800800 ∧ Same H H5,
    ⟨_, 0, Sg08.fresh, cs0, [], none, rfl, Nat.zero_le _, rfl, D3, upd_same, hL0, hdue, by simp; omega, (s1.trans s2).trans (same_laid hq)⟩, ?_⟩
  rintro μ σ H5 ⟨i, m, cs, acc, v4, rfl, hi, rfl, D5, hq5, hL, hA, hlen, s5⟩
  refine ⟨_, rfl, r, dr, _, rfl, D5.R, hm_no _ _, r, dr, l, ns, i, rfl, D5.R, D5.S.sq, _, rfl, ?_⟩
  refine ite2 (fun c1 => ?_) fun c1 => ?_
  · have hlt : i < ns.length := of_decide_eq_true c1
    refine ⟨fun σ' H' => ∃ (i' : Nat) (m' : Machine) (cs' : List (List (List Int))) (acc' : List Int) (v4' : Option V), ns.length - i' < ns.length - i ∧ i' ≤ ns.length ∧ σ' = [some (.ref l), some (.ref a.x), some (.ref r), some (.ref q), v4'] ∧ DAt K C_2 C_1 C_0 C_3 H' a m' r dr l ns i' ∧ H' q = some (.lst (acc'.map V.int)) ∧ Left (ns.drop i') cs' ∧ PySg08.answers ns = acc' ++ due m' cs' ∧ acc'.length + 2002 * cs'.length ≤ 800800 ∧ Same H H',
      fun σ' H' ⟨i', m', cs', acc', v4', h1, h2, h3, h4, h5, h6, h7, h8, h9⟩ => ⟨_, h1, i', m', cs', acc', v4', rfl, h2, h3, h4, h5, h6, h7, h8, h9⟩, ?_⟩
    obtain ⟨z0, r0, hz0⟩ : ∃ z0 r0, ns.drop i = z0 :: r0 := by
      cases e : ns.drop i with
      | nil => have := congrArg List.length e; rw [List.length_drop] at this; simp at this; omega
      | cons z0 r0 => exact ⟨z0, r0, rfl⟩
    rw [hz0] at hL
    obtain ⟨c, t, cs', rfl, hcall, hL', hasked⟩ := left_cons hL
    have hN := next_of hcall hasked
    obtain ⟨pre, hpre, hpl⟩ := hN.parts
    have hdp : ns.drop i = pre ++ t := by rw [hz0]; exact hpre
    have hlenp : pre.length + t.length = ns.length - i := by have := congrArg List.length hdp; rw [List.length_drop, List.length_append] at this; omega
    have hal := ans_len hN m
    have hA' := hA
    rw [due_cons hN.whole] at hA'
    refine ⟨_, rfl, _, rfl, a, m, r, dr, l, ns, i, pre.length, c, rfl, D5, ⟨t, by rw [hz0]; exact hN, by rw [List.length_drop]; omega, by rw [List.length_drop]; omega⟩, fun p H6 hp M6 R6 f6 hl6 => ?_⟩
    obtain ⟨kvs, ek, _⟩ := D5.M.kn
    have nq : q ≠ a.x ∧ q ≠ a.cells ∧ q ≠ a.regs ∧ q ≠ a.known ∧ q ≠ r := ⟨ne_of hq5 D5.M.ob (by intro z; cases z), fun z => nqc z, fun z => nqr z, ne_of hq5 ek (by intro z; cases z), ne_of hq5 D5.R (by intro z; cases z)⟩
    have hq6 : H6 q = some (.lst (acc.map V.int)) := f6 q _ hq5 nq.1 nq.2.1 nq.2.2.1 nq.2.2.2.1 nq.2.2.2.2
    have npq : p ≠ q := fun z => by rw [z, hq5] at hp; cases hp
    have s6 : Same H H6 := fun b o e => f6 b o (s5 b o e) (ne_of_none e nx) (ne_of_none e nc0) (ne_of_none e nr0) (ne_of_none e nk0) (ne_of_none e nr1)
    have hal' : acc.length < 16777216 - 4000 := by omega
    refine ⟨_, rfl, .inl ⟨rfl, _, SqL.of hq6⟩, _, rfl, p, _, rfl, .inl (SqL.of hl6), q, _, _, rfl, rfl, hq6, (by rw [List.length_map]; show acc.length < 16777216; omega), ?_⟩
    refine ⟨_, rfl, .inl ⟨rfl, _, SqL.of upd_same⟩, _, rfl, q, p, _, _, rfl, rfl, upd_same, (by rw [upd_ne npq]; exact hl6), (by simp only [List.length_append, List.length_map, List.length_cons, List.length_nil]; show _ ≤ 16777216; omega), ?_⟩
    rw [upd_upd]
    have k7 : ∀ b o, H6 b = some o → b ≠ q → upd H6 q (.lst (List.map V.int acc ++ [V.int ((((Sg08Neutral.step m c).2.map V.int).length : Nat) : Int)] ++ (Sg08Neutral.step m c).2.map V.int)) b = some o := fun b o e hb => by rw [upd_ne hb]; exact e
    have M7 := M6.keepQ nq.1 nq.2.1 nq.2.2.1 nq.2.2.2.1 hq6 k7
    have hS7 := D5.S.keep fun b o e ⟨u, hu⟩ => k7 b o (by subst hu; exact frd_frz D5.M D5.R f6 e) (ne_of e hq5 (by intro z; rw [hu] at z; cases z))
    refine ⟨i + pre.length, (Sg08Neutral.step m c).1, cs', acc ++ ((((Sg08Neutral.step m c).2.length : Nat) : Int) :: (Sg08Neutral.step m c).2), _, by omega, by omega, rfl, ⟨M7, k7 _ _ R6 nq.2.2.2.2.symm, hS7⟩, ?_, by rw [drop_parts hdp]; exact hL', ?_, ?_, fun b o e => k7 b o (s6 b o e) (ne_of_none e nq1)⟩
    · rw [upd_same]
      simp only [List.map_append, List.map_cons, List.length_map, List.append_assoc, List.cons_append, List.nil_append]
    · rw [hA', List.append_assoc]
    · simp only [List.length_append, List.length_cons] at hlen ⊢
      omega
  · have hge : ¬ i < ns.length := fun z => c1 (decide_eq_true z)
    have hnil : ns.drop i = [] := List.drop_eq_nil_of_le (by omega)
    rw [hnil] at hL
    have := left_nil hL
    subst this
    rw [due_nil, List.append_nil] at hA
    rw [← hA] at hq5
    exact ⟨_, rfl, k q H5 hq5 s5⟩
end
end Sp8
end
section
namespace Sp8
open PySem PySem.Spec PyProof.Rows L2
theorem spec_call {P : Program} {w : World} {K : PySem.W.Frag} {mg mb : Str → Option Value} {k : Nat} {fa a : Addr} {s₁ : Shared} {vs : List Value} {ns : List Int}
    (KX : K.In s₁.heap) (hns : s₁.heap.Ns mainGlobals mg) (hb : s₁.heap.Ns builtinsNs mb) (hbb : ∀ x : Str, x ≠ "__name__" → mb x = bootBuiltins x) (hlim : s₁.heap.NoLimit) (hg : s₁.gens = #[])
    (ha : s₁.heap.get? a = some { cls := .type "list", data := .seq vs.toArray }) (hi : IntsAre vs ns) (hl : ns.length ≤ 16000) (ask : PySg08.answers_asked ns = true) (hr : Room k callerA)
    (F : ∀ base : Heap, K.In base → base.Ns mainGlobals mg → Ok P w K mg base k fa ["calls"] (spAnswers K)) :
    codeAny (model P w) callerA (.call (.ref fa) ⟨[.ref a], []⟩) (fun r s' => (∃ (p : Addr) (its : List Value) (n : Nat), r = .ok (.ret (.ref p)) ∧ s'.heap.get? p = some { cls := .type "list", data := .seq its.toArray n } ∧ IntsAre its (PySg08.answers ns)) ∧ OldK s₁.heap s'.heap ∧ s'.os = s₁.os ∧ AllBare s'.gens) s₁ := by
  have rv := vals_ints hi
  have lenV := hi.length
  have hls : ns.length ≤ sizeLine := Nat.le_trans hl (by decide)
  have core : ∀ H : Hp, Only H → Scr K H a (ns.map V.int) → HOk P w H s₁.heap → (∀ b, H b ≠ none → b = a) → (H a ≠ none → K.lookup a = none) →
      codeAny (model P w) callerA (.call (.ref fa) ⟨[.ref a], []⟩) (fun r s' => (∃ (p : Addr) (its : List Value) (n : Nat), r = .ok (.ret (.ref p)) ∧ s'.heap.get? p = some { cls := .type "list", data := .seq its.toArray n } ∧ IntsAre its (PySg08.answers ns)) ∧ OldK s₁.heap s'.heap ∧ s'.os = s₁.os ∧ AllBare s'.gens) s₁ := by
    intro H hO hS hok hA hK
    have base_of : ∀ {b : Addr} {o : Obj}, s₁.heap.get? b = some o → H b = none → (hidT s₁.heap H).get? b = some o := fun e n => hidT_get e n
    have noA : ∀ {b : Addr} {o : Obj} {es : Array DictEntry} {ep : Nat}, s₁.heap.get? b = some o → o.data = .dict es ep → H b = none := fun {b o es ep} e d => by
      cases q : H b with
      | none => rfl
      | some u =>
        have e' : b = a := hA b (by rw [q]; simp)
        subst e'
        rw [ha] at e; cases e
        have d' : Data.seq vs.toArray _ = Data.dict es ep := d
        cases d'
    have nsK : ∀ {b : Addr} {m : Str → Option Value}, s₁.heap.Ns b m → (hidT s₁.heap H).Ns b m := fun {b m} ⟨o, es, ep, e, d, r⟩ => ⟨o, es, ep, base_of e (noA e d), d, r⟩
    have hKb : K.In (hidT s₁.heap H) := fun b o e => base_of (KX b o e) (by
      cases q : H b with
      | none => rfl
      | some u =>
        have e' : b = a := hA b (by rw [q]; simp)
        subst e'
        rw [hK (by rw [q]; simp)] at e; cases e)
    have hM : Mod K mg (hidT s₁.heap H) := ⟨hKb, nsK hns, ⟨mb, nsK hb, hbb⟩, let ⟨mc, h1, h2⟩ := hlim; ⟨mc, nsK h1, h2⟩⟩
    have e0 : Env0 P w K mg (hidT s₁.heap H) callerA [] s₁ H := ⟨rfl, hM, fun b o e => of_hidT e, Nat.le_of_eq (hidT_size _ _), trivial, fun b hb => absurd (show b ∈ ([] : List Addr) from hb) (by simp), hok, .of_eq hg⟩
    obtain ⟨fd, Fn, Bd⟩ := (F _ hKb (nsK hns)).fn
    refine codeAny_mono (Fn.run callerA [] s₁ H ⟨[.ref a], []⟩ [.ref a] [.ref a] (fun v H' => ∃ p, v = V.ref p ∧ H' p = some (.lst ((PySg08.answers ns).map V.int))) E0 hr e0 (Bd s₁ [.ref a] KX rfl) (.cons rfl .nil)
      ⟨a, ns, rfl, hS, hl, ask, fun p H' hp _ => ⟨p, rfl, hp⟩⟩) fun r s' h => ?_
    cases r with
    | error e => exact (show False from h).elim
    | ok fl =>
      cases fl with
      | next => exact False.elim h
      | brk => exact False.elim h
      | cont => exact False.elim h
      | ret u =>
        obtain ⟨v, H', os, bare, un, hok', r', p, rfl, hp⟩ := h
        obtain rfl : u = Value.ref p := r'
        obtain ⟨_, its, n, rel, e⟩ := hok' p _ hp
        refine ⟨⟨p, its, n, rfl, e, intsAre_of rel⟩, OldK.of_keep fun b o e => ?_, os, bare⟩
        cases q : H b with
        | none => exact un.keep b o e q (by intro z; exact absurd (show b ∈ ([] : List Addr) from z) (by simp)) (by simp)
        | some u =>
          rcases hO b with z | ⟨ob, xs, z⟩
          · rw [q] at z; cases z
          · have z2 := un.frzs b ob _ z
            obtain ⟨e1, _⟩ := hok b _ z
            obtain ⟨e2, _⟩ := hok' b _ z2
            rw [e] at e1; cases e1
            exact e2
  cases hk : K.lookup a with
  | some o =>
    have e := KX a o hk
    rw [ha] at e
    cases e
    refine core (fun _ => none) (fun _ => .inl rfl) (.inr ⟨_, vs.toArray, _, hk, rfl, rfl, rfl, by rw [List.size_toArray, lenV]; exact hls, by simpa using rv⟩) (fun b u z => by have z' : (none : Option HO) = some u := z; cases z') (fun b z => absurd rfl z) fun z => absurd rfl z
  | none =>
    refine core (fun b => if b = a then some (.frz { cls := .type "list", data := .seq vs.toArray } (.lst (ns.map V.int))) else none) (fun b => ?_) (.inl ⟨{ cls := .type "list", data := .seq vs.toArray }, if_pos rfl⟩) (fun b u z => ?_) (fun b z => ?_) fun _ => hk
    · by_cases hb : b = a
      · exact .inr ⟨_, _, if_pos hb⟩
      · exact .inl (if_neg hb)
    · by_cases hb : b = a
      · have z' := (if_pos hb).symm.trans z
        cases z'
        subst hb
        exact ⟨ha, by rw [List.length_map]; exact hls, vs, _, rv, ha⟩
      · have z' := (if_neg hb).symm.trans z
        cases z'
    · by_cases hb : b = a
      · exact hb
      · exact absurd (if_neg hb) z
theorem reads_ints {R : PySem.W.WRecords} {cl : Str → Option Addr} {h : Heap} : ∀ {its : List Value} {ns : List Int}, IntsAre its ns → PySem.W.ReadsAllW R cl h its (ns.map PySem.W.WData.int) []
  | _, _, .nil => .nil
  | _, _, .cons n t r => .cons (as := []) (bs := []) (.int n t) (reads_ints r)
open PySem.W in
theorem script_ofS {P : Params} {h : Heap} {args : List WData} {vals : List Value} (hpre : PySem.Challenge.rw_smallcore_s01_answers.pre args = true) (hwl : WellAll P h vals args) :
    ∃ a vs ns, vals = [Value.ref a] ∧ args = [WData.list (ns.map WData.int)] ∧ h.get? a = some { cls := .type "list", data := .seq vs.toArray } ∧ IntsAre vs ns ∧ ns.length ≤ 16000 ∧ PySg08.answers_asked ns = true ∧
      ∀ d : WData, d = WData.list ((PySg08.answers ns).map WData.int) → PySem.Challenge.rw_smallcore_s01_answers.post args d = true := by
  have hsh := os_shapes _ hpre
  have hsh : WShape.hasAll [] args [.list .int] = true := hsh
  obtain ⟨d, r, rfl, h1, h2⟩ := hasAllW_cons hsh
  obtain rfl := hasAllW_nil h2
  obtain ⟨xs, rfl, h3⟩ := hasW_list h1
  obtain ⟨ns, rfl⟩ := items_int h3
  have ep : (WData.list (ns.map WData.int)) = ofPy (PyData.list (ns.map PyData.int)) := by
    rw [← ofPys_ints]; rfl
  have hS : (Codec.decAll PySem.Challenge.rw_smallcore_s01_answers.args [ofPy (PyData.list (ns.map PyData.int))]).isSome = true := os_pre_isSome (by rw [← ep]; exact hpre)
  obtain ⟨osDec, osLeast, osMost, osItems⟩ := os_dec_ints (least := 0) (most := 16000) (lo := (_root_.Int.negSucc 9223372036854775807)) (hi := (_root_.Int.ofNat 18446744073709551615)) hS
  have osAsked := os_pre_asked (r := PySem.Challenge.rw_smallcore_s01_answers) (by rw [← ep]; exact hpre) osDec
  cases hwl with
  | cons w1 w2 =>
    cases w2
    cases w1 with
    | list ho hall => exact ⟨_, _, ns, rfl, rfl, ho, Att.ints_of_wellAll ns _ hall, osMost, osAsked, fun d hd => by
        rw [ep]
        refine os_post osDec ?_
        rw [hd]
        exact same_self _⟩
open PySem.W in
theorem walk_os {q : Program} {loose : List Str} {XP : (Str → Option Value) → Heap → Prop} {YP : World → Heap → Prop} {d : DefRec} {K : Params → PySem.W.Frag} {k : Nat} (hr : Room k callerA)
    (hY : ∀ (w : World) (h : Heap), YP w h → (K w.params).In h)
    (F : ∀ (w : World) (mg : Str → Option Value) (fa : Addr) (h : Heap), (K w.params).In h → h.Ns mainGlobals mg → mg d.name = some (.ref fa) →
      ∀ base : Heap, (K w.params).In base → base.Ns mainGlobals mg → Ok PySem.Challenge.rw_smallcore_s01_answers.prog w (K w.params) mg base k fa ["calls"] (spAnswers (K w.params))) :
    WalkOS q loose XP YP PySem.Challenge.rw_smallcore_s01_answers d [] (fun f vs => PySem.call f vs) := by
  intro w s₀ s₁ mg mb G Y fa o pm cd doc dV kV ho hd hcd hD hmg hg args vals as hpre hlay hrd hwl hlo
  obtain ⟨a, vs, ns, rfl, rfl, hobj, hints, hlen, hask, hpost⟩ := script_ofS hpre hwl
  have KX := hY w _ Y
  refine enter_call (codeAny_mono (spec_call KX G.T.g G.T.b G.T.builtins G.T.nolimit hg hobj hints hlen hask hr (F w mg fa _ KX G.T.g hmg)) fun r s' hq => ?_)
  obtain ⟨⟨p, its, n, rfl, e, hI⟩, h2, h3, h4⟩ := hq
  exact ⟨.inl ⟨.ref p, .list ((PySg08.answers ns).map WData.int), [p], rfl, fun _ => rfl, .list (as := []) e rfl rfl (by simpa using reads_ints hI), hpost _ rfl, fun h => absurd h Bool.false_ne_true⟩, h2, h3, h4⟩
end Sp8
end
section
namespace Sp8
open PySem PySem.Spec PyProof.Rows L2
def fnAt (K : PySem.W.Frag) (f : Addr) : Option FuncData := match K.lookup f with
  | some ⟨_, _, .func fd, _⟩ => some fd
  | _ => none
theorem fnAt_some {K : PySem.W.Frag} {f : Addr} {fd : FuncData} (h : fnAt K f = some fd) : ∃ oc od osl, K.lookup f = some ⟨oc, od, .func fd, osl⟩ := by
  unfold fnAt at h
  split at h
  · rename_i oc od g osl e
    cases h
    exact ⟨oc, od, osl, e⟩
  · cases h
theorem def_at {K : PySem.W.Frag} {x qual : Str} {st : Stmt} {ps : List Str} {f : Addr}
    (l : fnAt K f = (fnAt K f).map fun fd => PySem.W.fnOf x qual (defArgs st) (defBody st) (defScope st) .none fd.kwdefaults fd.doc fd.pyModule fd.annotations fd.code fd.closureTuple)
    (c : (fnAt K f).any (fun fd => PySem.W.codeIn K fd.code qual) = true) (k : PySem.W.keepIn K (.ref f) = true)
    (hb : ∀ (kV doc pm : Value) (an : Option Addr) (cdv ct : Value) (us : List Value), us.length = ps.length → bindArgs (PySem.W.fnOf x qual (defArgs st) (defBody st) (defScope st) .none kV doc pm an cdv ct) ⟨us, []⟩ = pure (ps.zip us)) : Def K x qual st ps f := by
  cases e : fnAt K f with
  | none => rw [e] at c; cases c
  | some fd =>
    rw [e] at l c
    obtain ⟨oc, od, osl, lk⟩ := fnAt_some e
    have l' : fd = PySem.W.fnOf x qual (defArgs st) (defBody st) (defScope st) .none fd.kwdefaults fd.doc fd.pyModule fd.annotations fd.code fd.closureTuple := by
      have := l
      simp only [Option.map_some] at this
      exact Option.some.inj this
    have c' : PySem.W.codeIn K fd.code qual = true := c
    rw [l'] at lk
    have F := fun_mk (st := st) lk c' k
    exact ⟨⟨_, F, F.binds hb⟩⟩
def exactD (o : Obj) : Bool := match o with
  | ⟨.type n, none, .dict _ _, sl⟩ => n == "dict" && sl.size == 0
  | _ => false
def entsD (o : Obj) : List DictEntry := match o with
  | ⟨_, _, .dict es _, _⟩ => es.toList
  | _ => []
theorem exactD_spec {o : Obj} (h : exactD o = true) : o.ExactDict ∧ ∃ es ep, o.data = .dict es ep ∧ entsD o = es.toList := by
  unfold exactD at h
  split at h
  · rename_i n es ep sl
    simp only [Bool.and_eq_true, beq_iff_eq] at h
    obtain ⟨rfl, hs⟩ := h
    refine ⟨⟨rfl, rfl, ?_⟩, _, _, rfl, rfl⟩
    exact Array.eq_empty_of_size_eq_zero hs
  · cases h
def keyOf : Value → Option Key
  | .int i _ => some (.inl i)
  | .str s _ => some (.inr s)
  | _ => none
theorem keyOf_is : ∀ {v : Value} {k : Key}, keyOf v = some k → keyIs k v = true
  | .int i t, k, h => by cases h; exact keyIs_int i t
  | .str s t, k, h => by cases h; exact keyIs_str s t
  | .none, _, h => by cases h
  | .ellipsis, _, h => by cases h
  | .notImplemented, _, h => by cases h
  | .bool _, _, h => by cases h
  | .float _ _, _, h => by cases h
  | .bytes _ _, _, h => by cases h
  | .type _, _, h => by cases h
  | .builtin _, _, h => by cases h
  | .ref _, _, h => by cases h
theorem absV_rel : ∀ {v : Value} {x : V}, absV v = some x → RelV x v
  | .int i t, k, h => by cases h; exact ⟨t, rfl⟩
  | .str s t, k, h => by cases h; exact ⟨t, rfl⟩
  | .none, _, h => by cases h; rfl
  | .ellipsis, _, h => by cases h
  | .notImplemented, _, h => by cases h
  | .bool _, _, h => by cases h; rfl
  | .float _ t, _, h => by cases h; exact ⟨t, rfl⟩
  | .bytes _ t, _, h => by cases h; exact ⟨t, rfl⟩
  | .type _, _, h => by cases h; rfl
  | .builtin _, _, h => by cases h
  | .ref _, _, h => by cases h; rfl
def kdLook (K : PySem.W.Frag) (a : Addr) : Option (List (Int × Option Key × Option V)) := match K.lookup a with
  | some o => if exactD o = true then some ((entsD o).map fun e => (e.hash, keyOf e.key, absV e.val)) else none
  | none => none
theorem kd_at {P : Program} {w : World} {K : PySem.W.Frag} {a : Addr} {kvs : List (Key × V)} (h : kdLook K a = some (kvs.map fun p => (keyH w p.1, some p.1, some p.2))) (hs : (a == sysModules) = false) (hn : (kvs.map (·.1)).Nodup) : KD P w K a kvs := by
  intro hp hK
  refine ⟨hs, ?_⟩
  unfold kdLook at h
  split at h
  case h_2 => cases h
  case h_1 o e =>
  split at h
  case isFalse => cases h
  case isTrue hx =>
  obtain ⟨ex, es, ep, hd, he⟩ := exactD_spec hx
  have h := Option.some.inj h
  rw [he] at h
  have main : ∀ (l : List DictEntry) (kvs : List (Key × V)), l.map (fun e => (e.hash, keyOf e.key, absV e.val)) = kvs.map (fun p => (keyH w p.1, some p.1, some p.2)) →
      ∃ vs : List (Key × Value), KV kvs vs ∧ vs.map (·.1) = kvs.map (·.1) ∧ (∀ e ∈ l, ∃ k, keyIs k e.key = true ∧ e.hash = keyH w k) ∧ Pairs (mixKind P w) l vs := by
    intro l
    induction l with
    | nil =>
      intro kvs q
      cases kvs with
      | nil => exact ⟨[], .nil, rfl, fun _ h => by simp at h, .nil⟩
      | cons _ _ => simp at q
    | cons d l ih =>
      intro kvs q
      cases kvs with
      | nil => simp at q
      | cons p kvs =>
        rw [List.map_cons, List.map_cons, List.cons.injEq] at q
        obtain ⟨q1, q2⟩ := q
        obtain ⟨vs, r, n, hk, pr⟩ := ih kvs q2
        have a1 : d.hash = keyH w p.1 := congrArg Prod.fst q1
        have a2 : keyOf d.key = some p.1 := congrArg (fun z => z.2.1) q1
        have a3 : absV d.val = some p.2 := congrArg (fun z => z.2.2) q1
        refine ⟨(p.1, d.val) :: vs, .cons ⟨rfl, absV_rel a3⟩ r, ?_, fun e he => ?_, .cons (keyOf_is a2) rfl pr⟩
        · rw [List.map_cons, List.map_cons, n]
        · rcases List.mem_cons.mp he with rfl | he
          · exact ⟨p.1, keyOf_is a2, a1⟩
          · exact hk e he
  obtain ⟨vs, r, n, hk, pr⟩ := main _ _ h
  exact ⟨vs, r, o, es, ep, hK a o e, ex, hd, fun d hd => hk d (Array.mem_toList_iff.mpr hd), pr, by rw [n]; exact hn⟩
def tupAt (K : PySem.W.Frag) (a : Addr) : Option (List Value) := match K.lookup a with
  | some ⟨.type n, _, .seq its _, _⟩ => if n == "tuple" then some its.toList else none
  | _ => none
theorem tupAt_spec {K : PySem.W.Frag} {a : Addr} {l : List Value} (h : tupAt K a = some l) : ∃ (o : Obj) (its : Array Value) (n : Nat), K.lookup a = some o ∧ o.cls = .type "tuple" ∧ o.data = .seq its n ∧ its.toList = l := by
  unfold tupAt at h
  split at h
  case h_2 => cases h
  case h_1 n od its m sl e =>
  split at h
  case isFalse => cases h
  case isTrue hx =>
  rw [beq_iff_eq] at hx
  subst hx
  exact ⟨_, its, m, e, rfl, rfl, Option.some.inj h⟩
def keysAt (K : PySem.W.Frag) : Value → Option (List (Option Key))
  | .ref b => (tupAt K b).map fun l => l.map keyOf
  | _ => none
def kdtLook (K : PySem.W.Frag) (a : Addr) : Option (List (Int × Option (List (Option Key)) × Option V)) := match K.lookup a with
  | some o => if exactD o = true then some ((entsD o).map fun e => (e.hash, keysAt K e.key, absV e.val)) else none
  | none => none
theorem items_are {P : Program} {w : World} : ∀ {l : List Value} {ks : List Key}, l.map keyOf = ks.map some → ItemsAre (mixKind P w) ks l
  | [], [], _ => .nil
  | [], _ :: _, h => by simp at h
  | _ :: _, [], h => by simp at h
  | v :: l, k :: ks, h => by
    rw [List.map_cons, List.map_cons, List.cons.injEq] at h
    exact .cons (keyOf_is h.1) (items_are h.2)
theorem kdt_at {P : Program} {w : World} {K : PySem.W.Frag} {a : Addr} {kvs : List (List Key × V)} (h : kdtLook K a = some (kvs.map fun p => (tupleKeyHash (mixKind P w) p.1, some (p.1.map some), some p.2))) (hs : (a == sysModules) = false) (hn : (kvs.map (·.1)).Nodup) : KDT P w K a kvs := by
  intro hp hK
  refine ⟨hs, ?_⟩
  unfold kdtLook at h
  split at h
  case h_2 => cases h
  case h_1 o e =>
  split at h
  case isFalse => cases h
  case isTrue hx =>
  obtain ⟨ex, es, ep, hd, he⟩ := exactD_spec hx
  have h := Option.some.inj h
  rw [he] at h
  have main : ∀ (l : List DictEntry) (kvs : List (List Key × V)), l.map (fun e => (e.hash, keysAt K e.key, absV e.val)) = kvs.map (fun p => (tupleKeyHash (mixKind P w) p.1, some (p.1.map some), some p.2)) →
      ∃ xs : List (List Key × Addr × Value), Paired (fun (p : List Key × V) (q : List Key × Addr × Value) => p.1 = q.1 ∧ RelV p.2 q.2.2) kvs xs ∧ xs.map (·.1) = kvs.map (·.1) ∧ l = xs.map (entryOfKey (tupleKind (mixKind P w))) ∧ ∀ x ∈ xs, (tupleKind (mixKind P w)).is hp x.1 x.2.1 := by
    intro l
    induction l with
    | nil =>
      intro kvs q
      cases kvs with
      | nil => exact ⟨[], .nil, rfl, rfl, fun _ h => by simp at h⟩
      | cons _ _ => simp at q
    | cons d l ih =>
      intro kvs q
      cases kvs with
      | nil => simp at q
      | cons p kvs =>
        rw [List.map_cons, List.map_cons, List.cons.injEq] at q
        obtain ⟨q1, q2⟩ := q
        obtain ⟨xs, r, n, hl, hi⟩ := ih kvs q2
        have a1 : d.hash = tupleKeyHash (mixKind P w) p.1 := congrArg Prod.fst q1
        have a2 : keysAt K d.key = some (p.1.map some) := congrArg (fun z => z.2.1) q1
        have a3 : absV d.val = some p.2 := congrArg (fun z => z.2.2) q1
        cases dk : d.key with
        | ref b =>
          rw [dk] at a2
          have a2 : (tupAt K b).map (fun l => l.map keyOf) = some (p.1.map some) := a2
          obtain ⟨its, t1, t2⟩ := Option.map_eq_some_iff.mp a2
          obtain ⟨ob, ia, m, lk, c1, c2, c3⟩ := tupAt_spec t1
          refine ⟨(p.1, b, d.val) :: xs, .cons ⟨rfl, absV_rel a3⟩ r, ?_, ?_, fun x hx => ?_⟩
          · rw [List.map_cons, List.map_cons, n]
          · rw [List.map_cons, ← hl]
            have : d = entryOfKey (tupleKind (mixKind P w)) (p.1, b, d.val) := by
              obtain ⟨dh, dk', dv⟩ := d
              simp only at dk a1
              subst dk
              subst a1
              rfl
            rw [← this]
          · rcases List.mem_cons.mp hx with rfl | hx
            · exact ⟨ob, ia, m, hK b ob lk, c1, c2, by rw [c3]; exact items_are t2⟩
            · exact hi x hx
        | none => rw [dk] at a2; cases a2
        | ellipsis => rw [dk] at a2; cases a2
        | notImplemented => rw [dk] at a2; cases a2
        | bool _ => rw [dk] at a2; cases a2
        | int _ _ => rw [dk] at a2; cases a2
        | float _ _ => rw [dk] at a2; cases a2
        | str _ _ => rw [dk] at a2; cases a2
        | bytes _ _ => rw [dk] at a2; cases a2
        | type _ => rw [dk] at a2; cases a2
        | builtin _ => rw [dk] at a2; cases a2
  obtain ⟨xs, r, n, hl, hi⟩ := main _ _ h
  exact ⟨xs, r, o, es, ep, hK a o e, ex, hd, hl, hi, by rw [n]; exact hn⟩
theorem vals_abs : ∀ {l : List Value} {xs : List V}, l.map absV = xs.map some → Vals xs l
  | [], [], _ => .nil
  | [], _ :: _, h => by simp at h
  | _ :: _, [], h => by simp at h
  | v :: l, k :: ks, h => by
    rw [List.map_cons, List.map_cons, List.cons.injEq] at h
    exact .cons (absV_rel h.1) (vals_abs h.2)
theorem sqt_at {K : PySem.W.Frag} {a : Addr} {xs : List V} (h : (tupAt K a).map (fun l => l.map absV) = some (xs.map some)) (hl : xs.length ≤ sizeLine) (H : Hp) : SqT K H a xs := by
  obtain ⟨its, t1, t2⟩ := Option.map_eq_some_iff.mp h
  obtain ⟨ob, ia, m, lk, c1, c2, c3⟩ := tupAt_spec t1
  refine .inr ⟨ob, ia, m, lk, c1, c2, ?_, by rw [c3]; exact vals_abs t2⟩
  have := congrArg List.length t2
  rw [List.length_map, List.length_map] at this
  rw [← Array.length_toList, c3, this]
  exact hl
theorem pcs_at {K : PySem.W.Frag} {a : Addr} {ps : List (Nat × Nat × Nat)} (as : List Addr) (h : (tupAt K a).map (fun l => l.map absV) = some ((as.map V.ref).map some)) (hz : as.length ≤ 100)
    (h2 : as.map (fun b => (tupAt K b).map fun l => l.map absV) = ps.map fun p => some [some (V.int p.1), some (V.int p.2.1), some (V.int p.2.2)]) : Pcs K a ps := by
  refine ⟨as, fun H => sqt_at h ?_ H, ?_⟩
  · rw [List.length_map]; exact Nat.le_trans hz (by decide)
  · clear h hz
    induction as generalizing ps with
    | nil => cases ps with
      | nil => exact .nil
      | cons _ _ => simp at h2
    | cons b as ih => cases ps with
      | nil => simp at h2
      | cons p ps =>
        rw [List.map_cons, List.map_cons, List.cons.injEq] at h2
        exact .cons (fun H => sqt_at (xs := [.int p.1, .int p.2.1, .int p.2.2]) h2.1 (show 3 ≤ sizeLine by decide) H) (ih h2.2)
theorem okM_of {P : Program} {w : World} {K : PySem.W.Frag} {mg : Str → Option Value} {base : Heap} {k : Nat} {f C : Addr} {m : Str} {ps : List Str} {sp : Sp} (G : Ok P w K mg base k f ps sp) (M : Meth K C m f) : OkM P w K mg base k C m ps sp := by
  obtain ⟨fd, F, b⟩ := G.fn
  exact ⟨⟨f, fd, F, b, M⟩⟩
theorem okC_of {P : Program} {w : World} {K : PySem.W.Frag} {mg : Str → Option Value} {base : Heap} {k : Nat} {f C : Addr} {ps : List Str} {sp : Sp} (G : Ok P w K mg base k f ps sp) (M : Mk K C f) : OkC P w K mg base k C ps sp := by
  obtain ⟨fd, F, b⟩ := G.fn
  exact ⟨⟨f, fd, F, b, M⟩⟩
end Sp8
end
section
namespace Sp8
open PySem PySem.Spec PyProof.Rows L2
structure Gm (w : World) (mg : Str → Option Value) : Prop where
  ex : ∃ h : Heap, (kK w.params).In h ∧ h.Ns mainGlobals mg
theorem Gm.at {w : World} {mg : Str → Option Value} {x : Str} {v : Value} (g : Gm w mg) (e : PySem.W.nsIn (kK w.params) mainGlobals x = some (some v)) : mg x = some v := let ⟨_, a, b⟩ := g.ex; PySem.W.mg_of a b e
theorem Gm.no {w : World} {mg : Str → Option Value} {x : Str} (g : Gm w mg) (e : PySem.W.nsIn (kK w.params) mainGlobals x = some none) : mg x = none := let ⟨_, a, b⟩ := g.ex; PySem.W.mg_none_of a b e
section
variable {w : World} {mg : Str → Option Value}
theorem D_0 (P : Params) : Def (kK P) "wrap" "wrap" (top 2) ["number"] 21 := def_at (by kernel_rfl) (by kernel_rfl) (by kernel_rfl) fun _ _ _ _ _ _ us hl => match us, hl with | [_], _ => rfl
theorem m_L (g : Gm w mg) : mg "MASK_64" = some (.int 18446744073709551615 189) := g.at (by kernel_rfl)
theorem D_1 (P : Params) : Def (kK P) "field" "field" (top 3) ["word", "low", "width"] 28 := def_at (by kernel_rfl) (by kernel_rfl) (by kernel_rfl) fun _ _ _ _ _ _ us hl => match us, hl with | [_, _, _], _ => rfl
theorem D_2 (P : Params) : Def (kK P) "signed" "signed" (top 4) ["number", "width"] 35 := def_at (by kernel_rfl) (by kernel_rfl) (by kernel_rfl) fun _ _ _ _ _ _ us hl => match us, hl with | [_, _], _ => rfl
theorem m_0 (g : Gm w mg) : mg "field" = some (.ref 28) := g.at (by kernel_rfl)
theorem D_3 (P : Params) : Def (kK P) "extend" "extend" (top 5) ["number", "width"] 42 := def_at (by kernel_rfl) (by kernel_rfl) (by kernel_rfl) fun _ _ _ _ _ _ us hl => match us, hl with | [_, _], _ => rfl
theorem m_4 (g : Gm w mg) : mg "wrap" = some (.ref 21) := g.at (by kernel_rfl)
theorem m_5 (g : Gm w mg) : mg "signed" = some (.ref 35) := g.at (by kernel_rfl)
theorem D_4 (P : Params) : Def (kK P) "add" "add" (top 8) ["a", "b"] 56 := def_at (by kernel_rfl) (by kernel_rfl) (by kernel_rfl) fun _ _ _ _ _ _ us hl => match us, hl with | [_, _], _ => rfl
theorem D_5 (P : Params) : Def (kK P) "subtract" "subtract" (top 9) ["a", "b"] 63 := def_at (by kernel_rfl) (by kernel_rfl) (by kernel_rfl) fun _ _ _ _ _ _ us hl => match us, hl with | [_, _], _ => rfl
theorem D_6 (P : Params) : Def (kK P) "bit_and" "bit_and" (top 10) ["a", "b"] 70 := def_at (by kernel_rfl) (by kernel_rfl) (by kernel_rfl) fun _ _ _ _ _ _ us hl => match us, hl with | [_, _], _ => rfl
theorem D_7 (P : Params) : Def (kK P) "bit_or" "bit_or" (top 11) ["a", "b"] 77 := def_at (by kernel_rfl) (by kernel_rfl) (by kernel_rfl) fun _ _ _ _ _ _ us hl => match us, hl with | [_, _], _ => rfl
theorem D_8 (P : Params) : Def (kK P) "bit_xor" "bit_xor" (top 12) ["a", "b"] 84 := def_at (by kernel_rfl) (by kernel_rfl) (by kernel_rfl) fun _ _ _ _ _ _ us hl => match us, hl with | [_, _], _ => rfl
theorem D_9 (P : Params) : Def (kK P) "shift_left" "shift_left" (top 13) ["a", "b"] 91 := def_at (by kernel_rfl) (by kernel_rfl) (by kernel_rfl) fun _ _ _ _ _ _ us hl => match us, hl with | [_, _], _ => rfl
theorem D_a (P : Params) : Def (kK P) "shift_right" "shift_right" (top 14) ["a", "b"] 98 := def_at (by kernel_rfl) (by kernel_rfl) (by kernel_rfl) fun _ _ _ _ _ _ us hl => match us, hl with | [_, _], _ => rfl
theorem D_b (P : Params) : Def (kK P) "shift_right_signed" "shift_right_signed" (top 15) ["a", "b"] 105 := def_at (by kernel_rfl) (by kernel_rfl) (by kernel_rfl) fun _ _ _ _ _ _ us hl => match us, hl with | [_, _], _ => rfl
theorem D_c (P : Params) : Def (kK P) "is_less" "is_less" (top 16) ["a", "b"] 112 := def_at (by kernel_rfl) (by kernel_rfl) (by kernel_rfl) fun _ _ _ _ _ _ us hl => match us, hl with | [_, _], _ => rfl
theorem D_d (P : Params) : Def (kK P) "is_less_signed" "is_less_signed" (top 17) ["a", "b"] 119 := def_at (by kernel_rfl) (by kernel_rfl) (by kernel_rfl) fun _ _ _ _ _ _ us hl => match us, hl with | [_, _], _ => rfl
theorem m_M (g : Gm w mg) : mg "is_less" = some (.ref 112) := g.at (by kernel_rfl)
theorem D_e (P : Params) : Def (kK P) "add_32" "add_32" (top 18) ["a", "b"] 126 := def_at (by kernel_rfl) (by kernel_rfl) (by kernel_rfl) fun _ _ _ _ _ _ us hl => match us, hl with | [_, _], _ => rfl
theorem m_1 (g : Gm w mg) : mg "extend" = some (.ref 42) := g.at (by kernel_rfl)
theorem D_f (P : Params) : Def (kK P) "subtract_32" "subtract_32" (top 19) ["a", "b"] 133 := def_at (by kernel_rfl) (by kernel_rfl) (by kernel_rfl) fun _ _ _ _ _ _ us hl => match us, hl with | [_, _], _ => rfl
theorem D_g (P : Params) : Def (kK P) "shift_left_32" "shift_left_32" (top 20) ["a", "b"] 140 := def_at (by kernel_rfl) (by kernel_rfl) (by kernel_rfl) fun _ _ _ _ _ _ us hl => match us, hl with | [_, _], _ => rfl
theorem D_h (P : Params) : Def (kK P) "shift_right_32" "shift_right_32" (top 21) ["a", "b"] 147 := def_at (by kernel_rfl) (by kernel_rfl) (by kernel_rfl) fun _ _ _ _ _ _ us hl => match us, hl with | [_, _], _ => rfl
theorem D_i (P : Params) : Def (kK P) "shift_right_signed_32" "shift_right_signed_32" (top 22) ["a", "b"] 154 := def_at (by kernel_rfl) (by kernel_rfl) (by kernel_rfl) fun _ _ _ _ _ _ us hl => match us, hl with | [_, _], _ => rfl
theorem D_j (P : Params) : Def (kK P) "multiply" "multiply" (top 23) ["a", "b"] 161 := def_at (by kernel_rfl) (by kernel_rfl) (by kernel_rfl) fun _ _ _ _ _ _ us hl => match us, hl with | [_, _], _ => rfl
theorem D_k (P : Params) : Def (kK P) "multiply_high" "multiply_high" (top 24) ["a", "b"] 168 := def_at (by kernel_rfl) (by kernel_rfl) (by kernel_rfl) fun _ _ _ _ _ _ us hl => match us, hl with | [_, _], _ => rfl
theorem D_l (P : Params) : Def (kK P) "multiply_high_signed" "multiply_high_signed" (top 25) ["a", "b"] 175 := def_at (by kernel_rfl) (by kernel_rfl) (by kernel_rfl) fun _ _ _ _ _ _ us hl => match us, hl with | [_, _], _ => rfl
theorem D_m (P : Params) : Def (kK P) "multiply_high_mixed" "multiply_high_mixed" (top 26) ["a", "b"] 182 := def_at (by kernel_rfl) (by kernel_rfl) (by kernel_rfl) fun _ _ _ _ _ _ us hl => match us, hl with | [_, _], _ => rfl
theorem D_n (P : Params) : Def (kK P) "multiply_32" "multiply_32" (top 27) ["a", "b"] 189 := def_at (by kernel_rfl) (by kernel_rfl) (by kernel_rfl) fun _ _ _ _ _ _ us hl => match us, hl with | [_, _], _ => rfl
theorem D_o (P : Params) : Def (kK P) "quotient" "quotient" (top 28) ["a", "b"] 196 := def_at (by kernel_rfl) (by kernel_rfl) (by kernel_rfl) fun _ _ _ _ _ _ us hl => match us, hl with | [_, _], _ => rfl
theorem n_2 (g : Gm w mg) : mg "abs" = none := g.no (by kernel_rfl)
theorem D_p (P : Params) : Def (kK P) "remainder" "remainder" (top 29) ["a", "b"] 203 := def_at (by kernel_rfl) (by kernel_rfl) (by kernel_rfl) fun _ _ _ _ _ _ us hl => match us, hl with | [_, _], _ => rfl
theorem m_i (g : Gm w mg) : mg "quotient" = some (.ref 196) := g.at (by kernel_rfl)
theorem D_q (P : Params) : Def (kK P) "divide" "divide" (top 30) ["a", "b"] 210 := def_at (by kernel_rfl) (by kernel_rfl) (by kernel_rfl) fun _ _ _ _ _ _ us hl => match us, hl with | [_, _], _ => rfl
theorem D_r (P : Params) : Def (kK P) "divide_signed" "divide_signed" (top 31) ["a", "b"] 217 := def_at (by kernel_rfl) (by kernel_rfl) (by kernel_rfl) fun _ _ _ _ _ _ us hl => match us, hl with | [_, _], _ => rfl
theorem D_s (P : Params) : Def (kK P) "remainder_signed" "remainder_signed" (top 32) ["a", "b"] 224 := def_at (by kernel_rfl) (by kernel_rfl) (by kernel_rfl) fun _ _ _ _ _ _ us hl => match us, hl with | [_, _], _ => rfl
theorem m_q (g : Gm w mg) : mg "remainder" = some (.ref 203) := g.at (by kernel_rfl)
theorem D_t (P : Params) : Def (kK P) "divide_32" "divide_32" (top 33) ["a", "b"] 231 := def_at (by kernel_rfl) (by kernel_rfl) (by kernel_rfl) fun _ _ _ _ _ _ us hl => match us, hl with | [_, _], _ => rfl
theorem D_u (P : Params) : Def (kK P) "divide_signed_32" "divide_signed_32" (top 34) ["a", "b"] 238 := def_at (by kernel_rfl) (by kernel_rfl) (by kernel_rfl) fun _ _ _ _ _ _ us hl => match us, hl with | [_, _], _ => rfl
theorem D_v (P : Params) : Def (kK P) "remainder_32" "remainder_32" (top 35) ["a", "b"] 245 := def_at (by kernel_rfl) (by kernel_rfl) (by kernel_rfl) fun _ _ _ _ _ _ us hl => match us, hl with | [_, _], _ => rfl
theorem D_w (P : Params) : Def (kK P) "remainder_signed_32" "remainder_signed_32" (top 36) ["a", "b"] 252 := def_at (by kernel_rfl) (by kernel_rfl) (by kernel_rfl) fun _ _ _ _ _ _ us hl => match us, hl with | [_, _], _ => rfl
theorem D_x (P : Params) : Def (kK P) "gather" "gather" (top 6) ["word", "pieces"] 49 := def_at (by kernel_rfl) (by kernel_rfl) (by kernel_rfl) fun _ _ _ _ _ _ us hl => match us, hl with | [_, _], _ => rfl
theorem D_y (P : Params) : Def (kK P) "__init__" "Instruction.__init__" (inClass (top 41) 0) ["self", "form", "name", "target", "first", "second", "immediate"] 282 := def_at (by kernel_rfl) (by kernel_rfl) (by kernel_rfl) fun _ _ _ _ _ _ us hl => match us, hl with | [_, _, _, _, _, _, _], _ => rfl
theorem Mk_0 (P : Params) : Mk (kK P) 285 282 := ⟨by kernel_rfl, by kernel_rfl, by kernel_rfl, by kernel_rfl⟩
theorem D_z (P : Params) : Def (kK P) "of_registers" "of_registers" (top 42) ["name", "target", "first", "second"] 296 := def_at (by kernel_rfl) (by kernel_rfl) (by kernel_rfl) fun _ _ _ _ _ _ us hl => match us, hl with | [_, _, _, _], _ => rfl
theorem m_b (g : Gm w mg) : mg "Instruction" = some (.ref 285) := g.at (by kernel_rfl)
theorem D_A (P : Params) : Def (kK P) "of_immediate" "of_immediate" (top 43) ["name", "target", "first", "immediate"] 303 := def_at (by kernel_rfl) (by kernel_rfl) (by kernel_rfl) fun _ _ _ _ _ _ us hl => match us, hl with | [_, _, _, _], _ => rfl
theorem D_B (P : Params) : Def (kK P) "of_pc" "of_pc" (top 44) ["target", "immediate"] 310 := def_at (by kernel_rfl) (by kernel_rfl) (by kernel_rfl) fun _ _ _ _ _ _ us hl => match us, hl with | [_, _], _ => rfl
theorem D_C (P : Params) : Def (kK P) "of_load" "of_load" (top 45) ["name", "target", "first", "immediate"] 317 := def_at (by kernel_rfl) (by kernel_rfl) (by kernel_rfl) fun _ _ _ _ _ _ us hl => match us, hl with | [_, _, _, _], _ => rfl
theorem D_D (P : Params) : Def (kK P) "of_store" "of_store" (top 46) ["name", "first", "second", "immediate"] 324 := def_at (by kernel_rfl) (by kernel_rfl) (by kernel_rfl) fun _ _ _ _ _ _ us hl => match us, hl with | [_, _, _, _], _ => rfl
theorem D_E (P : Params) : Def (kK P) "of_branch" "of_branch" (top 47) ["name", "first", "second", "immediate"] 331 := def_at (by kernel_rfl) (by kernel_rfl) (by kernel_rfl) fun _ _ _ _ _ _ us hl => match us, hl with | [_, _, _, _], _ => rfl
theorem D_F (P : Params) : Def (kK P) "of_jump" "of_jump" (top 48) ["target", "immediate"] 338 := def_at (by kernel_rfl) (by kernel_rfl) (by kernel_rfl) fun _ _ _ _ _ _ us hl => match us, hl with | [_, _], _ => rfl
theorem D_G (P : Params) : Def (kK P) "of_jump_to" "of_jump_to" (top 49) ["target", "first", "immediate"] 345 := def_at (by kernel_rfl) (by kernel_rfl) (by kernel_rfl) fun _ _ _ _ _ _ us hl => match us, hl with | [_, _, _], _ => rfl
theorem D_H (P : Params) : Def (kK P) "of_nothing" "of_nothing" (top 50) [] 352 := def_at (by kernel_rfl) (by kernel_rfl) (by kernel_rfl) fun _ _ _ _ _ _ us hl => match us, hl with | [], _ => rfl
theorem D_I (P : Params) : Def (kK P) "of_stop" "of_stop" (top 51) ["name"] 359 := def_at (by kernel_rfl) (by kernel_rfl) (by kernel_rfl) fun _ _ _ _ _ _ us hl => match us, hl with | [_], _ => rfl
theorem D_J (P : Params) : Def (kK P) "of_reserved" "of_reserved" (top 52) [] 366 := def_at (by kernel_rfl) (by kernel_rfl) (by kernel_rfl) fun _ _ _ _ _ _ us hl => match us, hl with | [], _ => rfl
theorem m_r (g : Gm w mg) : mg "of_stop" = some (.ref 359) := g.at (by kernel_rfl)
theorem D_K (P : Params) : Def (kK P) "target_of" "target_of" (top 68) ["word"] 434 := def_at (by kernel_rfl) (by kernel_rfl) (by kernel_rfl) fun _ _ _ _ _ _ us hl => match us, hl with | [_], _ => rfl
theorem D_L (P : Params) : Def (kK P) "three_of" "three_of" (top 69) ["word"] 441 := def_at (by kernel_rfl) (by kernel_rfl) (by kernel_rfl) fun _ _ _ _ _ _ us hl => match us, hl with | [_], _ => rfl
theorem D_M (P : Params) : Def (kK P) "first_of" "first_of" (top 70) ["word"] 448 := def_at (by kernel_rfl) (by kernel_rfl) (by kernel_rfl) fun _ _ _ _ _ _ us hl => match us, hl with | [_], _ => rfl
theorem D_N (P : Params) : Def (kK P) "second_of" "second_of" (top 71) ["word"] 455 := def_at (by kernel_rfl) (by kernel_rfl) (by kernel_rfl) fun _ _ _ _ _ _ us hl => match us, hl with | [_], _ => rfl
theorem D_O (P : Params) : Def (kK P) "plain_immediate" "plain_immediate" (top 72) ["word"] 462 := def_at (by kernel_rfl) (by kernel_rfl) (by kernel_rfl) fun _ _ _ _ _ _ us hl => match us, hl with | [_], _ => rfl
theorem m_2 (g : Gm w mg) : mg "gather" = some (.ref 49) := g.at (by kernel_rfl)
theorem m_N (g : Gm w mg) : mg "PLAIN_PIECES_long_words" = some (.ref 368) := g.at (by kernel_rfl)
theorem p_4 (P : Params) : Pcs (kK P) 368 [(20, 12, 0)] := pcs_at [367] (by kernel_rfl) (by decide) (by kernel_rfl)
theorem D_P (P : Params) : Def (kK P) "upper_immediate" "upper_immediate" (top 74) ["word"] 469 := def_at (by kernel_rfl) (by kernel_rfl) (by kernel_rfl) fun _ _ _ _ _ _ us hl => match us, hl with | [_], _ => rfl
theorem m_O (g : Gm w mg) : mg "UPPER_PIECES_long_words" = some (.ref 378) := g.at (by kernel_rfl)
theorem p_5 (P : Params) : Pcs (kK P) 378 [(12, 20, 12)] := pcs_at [377] (by kernel_rfl) (by decide) (by kernel_rfl)
theorem D_Q (P : Params) : Def (kK P) "read_upper" "read_upper" (top 75) ["word"] 476 := def_at (by kernel_rfl) (by kernel_rfl) (by kernel_rfl) fun _ _ _ _ _ _ us hl => match us, hl with | [_], _ => rfl
theorem m_6 (g : Gm w mg) : mg "of_immediate" = some (.ref 303) := g.at (by kernel_rfl)
theorem m_z (g : Gm w mg) : mg "upper_immediate" = some (.ref 469) := g.at (by kernel_rfl)
theorem m_9 (g : Gm w mg) : mg "target_of" = some (.ref 434) := g.at (by kernel_rfl)
theorem D_R (P : Params) : Def (kK P) "read_upper_of_pc" "read_upper_of_pc" (top 77) ["word"] 483 := def_at (by kernel_rfl) (by kernel_rfl) (by kernel_rfl) fun _ _ _ _ _ _ us hl => match us, hl with | [_], _ => rfl
theorem m_P (g : Gm w mg) : mg "of_pc" = some (.ref 310) := g.at (by kernel_rfl)
theorem D_S (P : Params) : Def (kK P) "read_jump" "read_jump" (top 78) ["word"] 490 := def_at (by kernel_rfl) (by kernel_rfl) (by kernel_rfl) fun _ _ _ _ _ _ us hl => match us, hl with | [_], _ => rfl
theorem m_A (g : Gm w mg) : mg "of_jump" = some (.ref 338) := g.at (by kernel_rfl)
theorem m_Q (g : Gm w mg) : mg "JUMP_PIECES_long_words" = some (.ref 383) := g.at (by kernel_rfl)
theorem p_6 (P : Params) : Pcs (kK P) 383 [(21, 10, 1), (20, 1, 11), (12, 8, 12), (31, 1, 20)] := pcs_at [379, 380, 381, 382] (by kernel_rfl) (by decide) (by kernel_rfl)
theorem D_T (P : Params) : Def (kK P) "read_jump_to" "read_jump_to" (top 80) ["word"] 497 := def_at (by kernel_rfl) (by kernel_rfl) (by kernel_rfl) fun _ _ _ _ _ _ us hl => match us, hl with | [_], _ => rfl
theorem m_s (g : Gm w mg) : mg "of_jump_to" = some (.ref 345) := g.at (by kernel_rfl)
theorem m_n (g : Gm w mg) : mg "plain_immediate_long_words" = some (.ref 462) := g.at (by kernel_rfl)
theorem m_c (g : Gm w mg) : mg "first_of" = some (.ref 448) := g.at (by kernel_rfl)
theorem m_a (g : Gm w mg) : mg "three_of" = some (.ref 441) := g.at (by kernel_rfl)
theorem m_3 (g : Gm w mg) : mg "of_reserved" = some (.ref 366) := g.at (by kernel_rfl)
theorem D_U (P : Params) : Def (kK P) "read_branch" "read_branch" (top 81) ["word"] 504 := def_at (by kernel_rfl) (by kernel_rfl) (by kernel_rfl) fun _ _ _ _ _ _ us hl => match us, hl with | [_], _ => rfl
theorem m_t (g : Gm w mg) : mg "of_branch" = some (.ref 331) := g.at (by kernel_rfl)
theorem m_R (g : Gm w mg) : mg "BRANCH_PIECES_long_words" = some (.ref 376) := g.at (by kernel_rfl)
theorem m_o (g : Gm w mg) : mg "second_of" = some (.ref 455) := g.at (by kernel_rfl)
theorem m_S (g : Gm w mg) : mg "BRANCHES" = some (.ref 386) := g.at (by kernel_rfl)
theorem k_5 : KD rw8.prog w (kK w.params) 386 kv_3 := kd_at (by kernel_rfl) (by decide) (by decide +kernel)
theorem p_7 (P : Params) : Pcs (kK P) 376 [(8, 4, 1), (25, 6, 5), (7, 1, 11), (31, 1, 12)] := pcs_at [372, 373, 374, 375] (by kernel_rfl) (by decide) (by kernel_rfl)
theorem D_V (P : Params) : Def (kK P) "read_load" "read_load" (top 82) ["word"] 511 := def_at (by kernel_rfl) (by kernel_rfl) (by kernel_rfl) fun _ _ _ _ _ _ us hl => match us, hl with | [_], _ => rfl
theorem m_j (g : Gm w mg) : mg "of_load" = some (.ref 317) := g.at (by kernel_rfl)
theorem m_T (g : Gm w mg) : mg "LOADS" = some (.ref 384) := g.at (by kernel_rfl)
theorem k_6 : KD rw8.prog w (kK w.params) 384 kv_1 := kd_at (by kernel_rfl) (by decide) (by decide +kernel)
theorem D_W (P : Params) : Def (kK P) "read_store" "read_store" (top 83) ["word"] 518 := def_at (by kernel_rfl) (by kernel_rfl) (by kernel_rfl) fun _ _ _ _ _ _ us hl => match us, hl with | [_], _ => rfl
theorem m_k (g : Gm w mg) : mg "of_store" = some (.ref 324) := g.at (by kernel_rfl)
theorem m_U (g : Gm w mg) : mg "STORE_PIECES" = some (.ref 371) := g.at (by kernel_rfl)
theorem m_V (g : Gm w mg) : mg "STORES" = some (.ref 385) := g.at (by kernel_rfl)
theorem k_7 : KD rw8.prog w (kK w.params) 385 kv_2 := kd_at (by kernel_rfl) (by decide) (by decide +kernel)
theorem p_8 (P : Params) : Pcs (kK P) 371 [(7, 5, 0), (25, 7, 5)] := pcs_at [369, 370] (by kernel_rfl) (by decide) (by kernel_rfl)
theorem D_X (P : Params) : Def (kK P) "read_shift" "read_shift" (top 84) ["word"] 525 := def_at (by kernel_rfl) (by kernel_rfl) (by kernel_rfl) fun _ _ _ _ _ _ us hl => match us, hl with | [_], _ => rfl
theorem m_W (g : Gm w mg) : mg "SHIFTS" = some (.ref 388) := g.at (by kernel_rfl)
theorem k_a : KDT rw8.prog w (kK w.params) 388 kv_5 := kdt_at (by kernel_rfl) (by decide) (by decide +kernel)
theorem D_Y (P : Params) : Def (kK P) "read_shift_32" "read_shift_32" (top 85) ["word"] 532 := def_at (by kernel_rfl) (by kernel_rfl) (by kernel_rfl) fun _ _ _ _ _ _ us hl => match us, hl with | [_], _ => rfl
theorem m_X (g : Gm w mg) : mg "SHIFTS_32" = some (.ref 392) := g.at (by kernel_rfl)
theorem k_b : KDT rw8.prog w (kK w.params) 392 kv_6 := kdt_at (by kernel_rfl) (by decide) (by decide +kernel)
theorem D_Z (P : Params) : Def (kK P) "read_immediate" "read_immediate" (top 86) ["word"] 539 := def_at (by kernel_rfl) (by kernel_rfl) (by kernel_rfl) fun _ _ _ _ _ _ us hl => match us, hl with | [_], _ => rfl
theorem m_Y (g : Gm w mg) : mg "read_shift" = some (.ref 525) := g.at (by kernel_rfl)
theorem m_Z (g : Gm w mg) : mg "IMMEDIATES" = some (.ref 387) := g.at (by kernel_rfl)
theorem k_8 : KD rw8.prog w (kK w.params) 387 kv_4 := kd_at (by kernel_rfl) (by decide) (by decide +kernel)
theorem D_10 (P : Params) : Def (kK P) "read_immediate_32" "read_immediate_32" (top 87) ["word"] 546 := def_at (by kernel_rfl) (by kernel_rfl) (by kernel_rfl) fun _ _ _ _ _ _ us hl => match us, hl with | [_], _ => rfl
theorem m_10 (g : Gm w mg) : mg "read_shift_32" = some (.ref 532) := g.at (by kernel_rfl)
theorem D_11 (P : Params) : Def (kK P) "read_registers" "read_registers" (top 88) ["word"] 553 := def_at (by kernel_rfl) (by kernel_rfl) (by kernel_rfl) fun _ _ _ _ _ _ us hl => match us, hl with | [_], _ => rfl
theorem m_l (g : Gm w mg) : mg "of_registers" = some (.ref 296) := g.at (by kernel_rfl)
theorem m_11 (g : Gm w mg) : mg "REGISTERS_long_words" = some (.ref 396) := g.at (by kernel_rfl)
theorem k_c : KDT rw8.prog w (kK w.params) 396 kv_7 := kdt_at (by kernel_rfl) (by decide) (by decide +kernel)
theorem D_12 (P : Params) : Def (kK P) "read_registers_32" "read_registers_32" (top 89) ["word"] 560 := def_at (by kernel_rfl) (by kernel_rfl) (by kernel_rfl) fun _ _ _ _ _ _ us hl => match us, hl with | [_], _ => rfl
theorem m_12 (g : Gm w mg) : mg "REGISTERS_32" = some (.ref 416) := g.at (by kernel_rfl)
theorem k_d : KDT rw8.prog w (kK w.params) 416 kv_8 := kdt_at (by kernel_rfl) (by decide) (by decide +kernel)
theorem D_13 (P : Params) : Def (kK P) "read_fence" "read_fence" (top 90) ["word"] 567 := def_at (by kernel_rfl) (by kernel_rfl) (by kernel_rfl) fun _ _ _ _ _ _ us hl => match us, hl with | [_], _ => rfl
theorem m_13 (g : Gm w mg) : mg "of_nothing" = some (.ref 352) := g.at (by kernel_rfl)
theorem D_14 (P : Params) : Def (kK P) "read_system" "read_system" (top 91) ["word"] 574 := def_at (by kernel_rfl) (by kernel_rfl) (by kernel_rfl) fun _ _ _ _ _ _ us hl => match us, hl with | [_], _ => rfl
theorem m_14 (g : Gm w mg) : mg "SYSTEM_STOPS" = some (.ref 427) := g.at (by kernel_rfl)
theorem k_4 : KD rw8.prog w (kK w.params) 427 kv_9 := kd_at (by kernel_rfl) (by decide) (by decide +kernel)
theorem D_15 (P : Params) : Def (kK P) "read_long" "read_long" (top 93) ["word"] 582 := def_at (by kernel_rfl) (by kernel_rfl) (by kernel_rfl) fun _ _ _ _ _ _ us hl => match us, hl with | [_], _ => rfl
theorem m_J (g : Gm w mg) : mg "READERS_long_words" = some (.ref 575) := g.at (by kernel_rfl)
theorem k_2 : KD rw8.prog w (kK w.params) 575 [(.inl 3, .ref 511), (.inl 15, .ref 567), (.inl 19, .ref 539), (.inl 23, .ref 483), (.inl 27, .ref 546), (.inl 35, .ref 518), (.inl 51, .ref 553), (.inl 55, .ref 476), (.inl 59, .ref 560), (.inl 99, .ref 504), (.inl 103, .ref 497), (.inl 111, .ref 490), (.inl 115, .ref 574)] := kd_at (by kernel_rfl) (by decide) (by decide +kernel)
theorem D_16 (P : Params) : Def (kK P) "full_at_7" "full_at_7" (top 110) ["half"] 649 := def_at (by kernel_rfl) (by kernel_rfl) (by kernel_rfl) fun _ _ _ _ _ _ us hl => match us, hl with | [_], _ => rfl
theorem D_17 (P : Params) : Def (kK P) "full_at_2" "full_at_2" (top 111) ["half"] 656 := def_at (by kernel_rfl) (by kernel_rfl) (by kernel_rfl) fun _ _ _ _ _ _ us hl => match us, hl with | [_], _ => rfl
theorem D_18 (P : Params) : Def (kK P) "small_at_7" "small_at_7" (top 112) ["half"] 663 := def_at (by kernel_rfl) (by kernel_rfl) (by kernel_rfl) fun _ _ _ _ _ _ us hl => match us, hl with | [_], _ => rfl
theorem D_19 (P : Params) : Def (kK P) "small_at_2" "small_at_2" (top 113) ["half"] 670 := def_at (by kernel_rfl) (by kernel_rfl) (by kernel_rfl) fun _ _ _ _ _ _ us hl => match us, hl with | [_], _ => rfl
theorem D_1a (P : Params) : Def (kK P) "plain_immediate" "plain_immediate" (top 114) ["half"] 677 := def_at (by kernel_rfl) (by kernel_rfl) (by kernel_rfl) fun _ _ _ _ _ _ us hl => match us, hl with | [_], _ => rfl
theorem m_B (g : Gm w mg) : mg "PLAIN_PIECES_short_words" = some (.ref 585) := g.at (by kernel_rfl)
theorem p_0 (P : Params) : Pcs (kK P) 585 [(2, 5, 0), (12, 1, 5)] := pcs_at [583, 584] (by kernel_rfl) (by decide) (by kernel_rfl)
theorem D_1b (P : Params) : Def (kK P) "shift_amount" "shift_amount" (top 116) ["half"] 684 := def_at (by kernel_rfl) (by kernel_rfl) (by kernel_rfl) fun _ _ _ _ _ _ us hl => match us, hl with | [_], _ => rfl
theorem D_1c (P : Params) : Def (kK P) "read_stack_address" "read_stack_address" (top 117) ["half"] 691 := def_at (by kernel_rfl) (by kernel_rfl) (by kernel_rfl) fun _ _ _ _ _ _ us hl => match us, hl with | [_], _ => rfl
theorem m_e (g : Gm w mg) : mg "STACK_POINTER" = some (.int 2 1208) := g.at (by kernel_rfl)
theorem m_f (g : Gm w mg) : mg "small_at_2" = some (.ref 670) := g.at (by kernel_rfl)
theorem m_15 (g : Gm w mg) : mg "STACK_ADDRESS_PIECES" = some (.ref 593) := g.at (by kernel_rfl)
theorem p_9 (P : Params) : Pcs (kK P) 593 [(5, 1, 3), (6, 1, 2), (7, 4, 6), (11, 2, 4)] := pcs_at [589, 590, 591, 592] (by kernel_rfl) (by decide) (by kernel_rfl)
theorem D_1d (P : Params) : Def (kK P) "read_load_word" "read_load_word" (top 118) ["half"] 698 := def_at (by kernel_rfl) (by kernel_rfl) (by kernel_rfl) fun _ _ _ _ _ _ us hl => match us, hl with | [_], _ => rfl
theorem m_C (g : Gm w mg) : mg "WORD_PIECES" = some (.ref 603) := g.at (by kernel_rfl)
theorem m_d (g : Gm w mg) : mg "small_at_7" = some (.ref 663) := g.at (by kernel_rfl)
theorem p_1 (P : Params) : Pcs (kK P) 603 [(5, 1, 6), (6, 1, 2), (10, 3, 3)] := pcs_at [600, 601, 602] (by kernel_rfl) (by decide) (by kernel_rfl)
theorem D_1e (P : Params) : Def (kK P) "read_load_double" "read_load_double" (top 119) ["half"] 705 := def_at (by kernel_rfl) (by kernel_rfl) (by kernel_rfl) fun _ _ _ _ _ _ us hl => match us, hl with | [_], _ => rfl
theorem m_D (g : Gm w mg) : mg "DOUBLE_PIECES" = some (.ref 606) := g.at (by kernel_rfl)
theorem p_2 (P : Params) : Pcs (kK P) 606 [(5, 2, 6), (10, 3, 3)] := pcs_at [604, 605] (by kernel_rfl) (by decide) (by kernel_rfl)
theorem D_1f (P : Params) : Def (kK P) "read_store_word" "read_store_word" (top 120) ["half"] 712 := def_at (by kernel_rfl) (by kernel_rfl) (by kernel_rfl) fun _ _ _ _ _ _ us hl => match us, hl with | [_], _ => rfl
theorem D_1g (P : Params) : Def (kK P) "read_store_double" "read_store_double" (top 121) ["half"] 719 := def_at (by kernel_rfl) (by kernel_rfl) (by kernel_rfl) fun _ _ _ _ _ _ us hl => match us, hl with | [_], _ => rfl
theorem D_1h (P : Params) : Def (kK P) "read_add" "read_add" (top 122) ["half"] 726 := def_at (by kernel_rfl) (by kernel_rfl) (by kernel_rfl) fun _ _ _ _ _ _ us hl => match us, hl with | [_], _ => rfl
theorem m_p (g : Gm w mg) : mg "plain_immediate_short_words" = some (.ref 677) := g.at (by kernel_rfl)
theorem m_7 (g : Gm w mg) : mg "full_at_7" = some (.ref 649) := g.at (by kernel_rfl)
theorem D_1i (P : Params) : Def (kK P) "read_add_32" "read_add_32" (top 123) ["half"] 733 := def_at (by kernel_rfl) (by kernel_rfl) (by kernel_rfl) fun _ _ _ _ _ _ us hl => match us, hl with | [_], _ => rfl
theorem D_1j (P : Params) : Def (kK P) "read_load_immediate" "read_load_immediate" (top 124) ["half"] 740 := def_at (by kernel_rfl) (by kernel_rfl) (by kernel_rfl) fun _ _ _ _ _ _ us hl => match us, hl with | [_], _ => rfl
theorem D_1k (P : Params) : Def (kK P) "read_stack_move" "read_stack_move" (top 125) ["half"] 747 := def_at (by kernel_rfl) (by kernel_rfl) (by kernel_rfl) fun _ _ _ _ _ _ us hl => match us, hl with | [_], _ => rfl
theorem m_16 (g : Gm w mg) : mg "STACK_MOVE_PIECES" = some (.ref 599) := g.at (by kernel_rfl)
theorem p_a (P : Params) : Pcs (kK P) 599 [(2, 1, 5), (3, 2, 7), (5, 1, 6), (6, 1, 4), (12, 1, 9)] := pcs_at [594, 595, 596, 597, 598] (by kernel_rfl) (by decide) (by kernel_rfl)
theorem D_1l (P : Params) : Def (kK P) "read_upper" "read_upper" (top 126) ["half"] 754 := def_at (by kernel_rfl) (by kernel_rfl) (by kernel_rfl) fun _ _ _ _ _ _ us hl => match us, hl with | [_], _ => rfl
theorem m_17 (g : Gm w mg) : mg "UPPER_PIECES_short_words" = some (.ref 588) := g.at (by kernel_rfl)
theorem m_18 (g : Gm w mg) : mg "read_stack_move" = some (.ref 747) := g.at (by kernel_rfl)
theorem p_b (P : Params) : Pcs (kK P) 588 [(2, 5, 12), (12, 1, 17)] := pcs_at [586, 587] (by kernel_rfl) (by decide) (by kernel_rfl)
theorem D_1m (P : Params) : Def (kK P) "read_small_registers" "read_small_registers" (top 128) ["half"] 761 := def_at (by kernel_rfl) (by kernel_rfl) (by kernel_rfl) fun _ _ _ _ _ _ us hl => match us, hl with | [_], _ => rfl
theorem m_19 (g : Gm w mg) : mg "REGISTERS_short_words" = some (.ref 636) := g.at (by kernel_rfl)
theorem k_e : KDT rw8.prog w (kK w.params) 636 kv_a := kdt_at (by kernel_rfl) (by decide) (by decide +kernel)
theorem D_1n (P : Params) : Def (kK P) "read_small" "read_small" (top 129) ["half"] 768 := def_at (by kernel_rfl) (by kernel_rfl) (by kernel_rfl) fun _ _ _ _ _ _ us hl => match us, hl with | [_], _ => rfl
theorem m_1a (g : Gm w mg) : mg "read_small_registers" = some (.ref 761) := g.at (by kernel_rfl)
theorem m_y (g : Gm w mg) : mg "shift_amount" = some (.ref 684) := g.at (by kernel_rfl)
theorem D_1o (P : Params) : Def (kK P) "read_jump" "read_jump" (top 130) ["half"] 775 := def_at (by kernel_rfl) (by kernel_rfl) (by kernel_rfl) fun _ _ _ _ _ _ us hl => match us, hl with | [_], _ => rfl
theorem m_1b (g : Gm w mg) : mg "JUMP_PIECES_short_words" = some (.ref 629) := g.at (by kernel_rfl)
theorem p_c (P : Params) : Pcs (kK P) 629 [(2, 1, 5), (3, 3, 1), (6, 1, 7), (7, 1, 6), (8, 1, 10), (9, 2, 8), (11, 1, 4), (12, 1, 11)] := pcs_at [621, 622, 623, 624, 625, 626, 627, 628] (by kernel_rfl) (by decide) (by kernel_rfl)
theorem D_1p (P : Params) : Def (kK P) "read_branch_equal" "read_branch_equal" (top 132) ["half"] 782 := def_at (by kernel_rfl) (by kernel_rfl) (by kernel_rfl) fun _ _ _ _ _ _ us hl => match us, hl with | [_], _ => rfl
theorem m_E (g : Gm w mg) : mg "BRANCH_PIECES_short_words" = some (.ref 635) := g.at (by kernel_rfl)
theorem p_3 (P : Params) : Pcs (kK P) 635 [(2, 1, 5), (3, 2, 1), (5, 2, 6), (10, 2, 3), (12, 1, 8)] := pcs_at [630, 631, 632, 633, 634] (by kernel_rfl) (by decide) (by kernel_rfl)
theorem D_1q (P : Params) : Def (kK P) "read_branch_not_equal" "read_branch_not_equal" (top 133) ["half"] 789 := def_at (by kernel_rfl) (by kernel_rfl) (by kernel_rfl) fun _ _ _ _ _ _ us hl => match us, hl with | [_], _ => rfl
theorem D_1r (P : Params) : Def (kK P) "read_shift_left" "read_shift_left" (top 134) ["half"] 796 := def_at (by kernel_rfl) (by kernel_rfl) (by kernel_rfl) fun _ _ _ _ _ _ us hl => match us, hl with | [_], _ => rfl
theorem D_1s (P : Params) : Def (kK P) "read_stack_load_word" "read_stack_load_word" (top 135) ["half"] 803 := def_at (by kernel_rfl) (by kernel_rfl) (by kernel_rfl) fun _ _ _ _ _ _ us hl => match us, hl with | [_], _ => rfl
theorem m_1c (g : Gm w mg) : mg "STACK_LOAD_WORD_PIECES" = some (.ref 610) := g.at (by kernel_rfl)
theorem p_d (P : Params) : Pcs (kK P) 610 [(2, 2, 6), (4, 3, 2), (12, 1, 5)] := pcs_at [607, 608, 609] (by kernel_rfl) (by decide) (by kernel_rfl)
theorem D_1t (P : Params) : Def (kK P) "read_stack_load_double" "read_stack_load_double" (top 136) ["half"] 810 := def_at (by kernel_rfl) (by kernel_rfl) (by kernel_rfl) fun _ _ _ _ _ _ us hl => match us, hl with | [_], _ => rfl
theorem m_1d (g : Gm w mg) : mg "STACK_LOAD_DOUBLE_PIECES" = some (.ref 614) := g.at (by kernel_rfl)
theorem p_e (P : Params) : Pcs (kK P) 614 [(2, 3, 6), (5, 2, 3), (12, 1, 5)] := pcs_at [611, 612, 613] (by kernel_rfl) (by decide) (by kernel_rfl)
theorem D_1u (P : Params) : Def (kK P) "read_stack_store_word" "read_stack_store_word" (top 137) ["half"] 817 := def_at (by kernel_rfl) (by kernel_rfl) (by kernel_rfl) fun _ _ _ _ _ _ us hl => match us, hl with | [_], _ => rfl
theorem m_1e (g : Gm w mg) : mg "STACK_STORE_WORD_PIECES" = some (.ref 617) := g.at (by kernel_rfl)
theorem m_m (g : Gm w mg) : mg "full_at_2" = some (.ref 656) := g.at (by kernel_rfl)
theorem p_f (P : Params) : Pcs (kK P) 617 [(7, 2, 6), (9, 4, 2)] := pcs_at [615, 616] (by kernel_rfl) (by decide) (by kernel_rfl)
theorem D_1v (P : Params) : Def (kK P) "read_stack_store_double" "read_stack_store_double" (top 138) ["half"] 824 := def_at (by kernel_rfl) (by kernel_rfl) (by kernel_rfl) fun _ _ _ _ _ _ us hl => match us, hl with | [_], _ => rfl
theorem m_1f (g : Gm w mg) : mg "STACK_STORE_DOUBLE_PIECES" = some (.ref 620) := g.at (by kernel_rfl)
theorem p_g (P : Params) : Pcs (kK P) 620 [(7, 3, 6), (10, 3, 3)] := pcs_at [618, 619] (by kernel_rfl) (by decide) (by kernel_rfl)
theorem D_1w (P : Params) : Def (kK P) "read_move_or_jump" "read_move_or_jump" (top 139) ["half"] 831 := def_at (by kernel_rfl) (by kernel_rfl) (by kernel_rfl) fun _ _ _ _ _ _ us hl => match us, hl with | [_], _ => rfl
theorem D_1x (P : Params) : Def (kK P) "read_add_or_call" "read_add_or_call" (top 140) ["half"] 838 := def_at (by kernel_rfl) (by kernel_rfl) (by kernel_rfl) fun _ _ _ _ _ _ us hl => match us, hl with | [_], _ => rfl
theorem m_1g (g : Gm w mg) : mg "LINK" = some (.int 1 1206) := g.at (by kernel_rfl)
theorem D_1y (P : Params) : Def (kK P) "read_full" "read_full" (top 141) ["half"] 845 := def_at (by kernel_rfl) (by kernel_rfl) (by kernel_rfl) fun _ _ _ _ _ _ us hl => match us, hl with | [_], _ => rfl
theorem m_1h (g : Gm w mg) : mg "read_add_or_call" = some (.ref 838) := g.at (by kernel_rfl)
theorem m_1i (g : Gm w mg) : mg "read_move_or_jump" = some (.ref 831) := g.at (by kernel_rfl)
theorem D_1z (P : Params) : Def (kK P) "read_short" "read_short" (top 143) ["half"] 873 := def_at (by kernel_rfl) (by kernel_rfl) (by kernel_rfl) fun _ _ _ _ _ _ us hl => match us, hl with | [_], _ => rfl
theorem m_K (g : Gm w mg) : mg "READERS_short_words" = some (.ref 846) := g.at (by kernel_rfl)
theorem k_0 : KDT rw8.prog w (kK w.params) 846 [([.inl 0, .inl 0], .ref 691), ([.inl 0, .inl 2], .ref 698), ([.inl 0, .inl 3], .ref 705), ([.inl 0, .inl 6], .ref 712), ([.inl 0, .inl 7], .ref 719), ([.inl 1, .inl 0], .ref 726), ([.inl 1, .inl 1], .ref 733), ([.inl 1, .inl 2], .ref 740), ([.inl 1, .inl 3], .ref 754), ([.inl 1, .inl 4], .ref 768), ([.inl 1, .inl 5], .ref 775), ([.inl 1, .inl 6], .ref 782), ([.inl 1, .inl 7], .ref 789), ([.inl 2, .inl 0], .ref 796), ([.inl 2, .inl 2], .ref 803), ([.inl 2, .inl 3], .ref 810), ([.inl 2, .inl 4], .ref 845), ([.inl 2, .inl 6], .ref 817), ([.inl 2, .inl 7], .ref 824)] := kdt_at (by kernel_rfl) (by decide) (by decide +kernel)
theorem D_1A (P : Params) : Def (kK P) "__init__" "Memory.__init__" (inClass (top 170) 0) ["self"] 1003 := def_at (by kernel_rfl) (by kernel_rfl) (by kernel_rfl) fun _ _ _ _ _ _ us hl => match us, hl with | [_], _ => rfl
theorem Mk_1 (P : Params) : Mk (kK P) 1046 1003 := ⟨by kernel_rfl, by kernel_rfl, by kernel_rfl, by kernel_rfl⟩
theorem m_F (g : Gm w mg) : mg "MEMORY_SIZE" = some (.int 65536 1929) := g.at (by kernel_rfl)
theorem D_1B (P : Params) : Def (kK P) "holds" "Memory.holds" (inClass (top 170) 1) ["self", "place", "n"] 1010 := def_at (by kernel_rfl) (by kernel_rfl) (by kernel_rfl) fun _ _ _ _ _ _ us hl => match us, hl with | [_, _, _], _ => rfl
theorem Meth_0 (P : Params) : Meth (kK P) 1046 "holds" 1010 := ⟨by kernel_rfl, by kernel_rfl, by kernel_rfl⟩
theorem D_1C (P : Params) : Def (kK P) "store_row" "Memory.store_row" (inClass (top 170) 2) ["self", "place", "row"] 1017 := def_at (by kernel_rfl) (by kernel_rfl) (by kernel_rfl) fun _ _ _ _ _ _ us hl => match us, hl with | [_, _, _], _ => rfl
theorem Meth_1 (P : Params) : Meth (kK P) 1046 "store_row" 1017 := ⟨by kernel_rfl, by kernel_rfl, by kernel_rfl⟩
theorem n_3 (g : Gm w mg) : mg "enumerate" = none := g.no (by kernel_rfl)
theorem D_1D (P : Params) : Def (kK P) "load_row" "Memory.load_row" (inClass (top 170) 3) ["self", "place", "n"] 1024 := def_at (by kernel_rfl) (by kernel_rfl) (by kernel_rfl) fun _ _ _ _ _ _ us hl => match us, hl with | [_, _, _], _ => rfl
theorem Meth_2 (P : Params) : Meth (kK P) 1046 "load_row" 1024 := ⟨by kernel_rfl, by kernel_rfl, by kernel_rfl⟩
theorem D_1E (P : Params) : Def (kK P) "store_number" "Memory.store_number" (inClass (top 170) 4) ["self", "place", "n", "number"] 1029 := def_at (by kernel_rfl) (by kernel_rfl) (by kernel_rfl) fun _ _ _ _ _ _ us hl => match us, hl with | [_, _, _, _], _ => rfl
theorem Meth_3 (P : Params) : Meth (kK P) 1046 "store_number" 1029 := ⟨by kernel_rfl, by kernel_rfl, by kernel_rfl⟩
theorem n_1 (g : Gm w mg) : mg "range" = none := g.no (by kernel_rfl)
theorem D_1F (P : Params) : Def (kK P) "load_half" "Memory.load_half" (inClass (top 170) 5) ["self", "place"] 1036 := def_at (by kernel_rfl) (by kernel_rfl) (by kernel_rfl) fun _ _ _ _ _ _ us hl => match us, hl with | [_, _], _ => rfl
theorem Meth_4 (P : Params) : Meth (kK P) 1046 "load_half" 1036 := ⟨by kernel_rfl, by kernel_rfl, by kernel_rfl⟩
theorem D_1G (P : Params) : Def (kK P) "load_number" "Memory.load_number" (inClass (top 170) 6) ["self", "place", "n"] 1043 := def_at (by kernel_rfl) (by kernel_rfl) (by kernel_rfl) fun _ _ _ _ _ _ us hl => match us, hl with | [_, _, _], _ => rfl
theorem Meth_5 (P : Params) : Meth (kK P) 1046 "load_number" 1043 := ⟨by kernel_rfl, by kernel_rfl, by kernel_rfl⟩
theorem D_1H (P : Params) : Def (kK P) "compute" "compute" (top 38) ["name", "a", "b"] 261 := def_at (by kernel_rfl) (by kernel_rfl) (by kernel_rfl) fun _ _ _ _ _ _ us hl => match us, hl with | [_, _, _], _ => rfl
theorem m_1j (g : Gm w mg) : mg "RESULTS" = some (.ref 253) := g.at (by kernel_rfl)
theorem k_1 : KD rw8.prog w (kK w.params) 253 [(.inr "add", .ref 56), (.inr "sub", .ref 63), (.inr "and", .ref 70), (.inr "or", .ref 77), (.inr "xor", .ref 84), (.inr "sll", .ref 91), (.inr "srl", .ref 98), (.inr "sra", .ref 105), (.inr "slt", .ref 119), (.inr "sltu", .ref 112), (.inr "addw", .ref 126), (.inr "subw", .ref 133), (.inr "sllw", .ref 140), (.inr "srlw", .ref 147), (.inr "sraw", .ref 154), (.inr "mul", .ref 161), (.inr "mulh", .ref 175), (.inr "mulhsu", .ref 182), (.inr "mulhu", .ref 168), (.inr "div", .ref 217), (.inr "divu", .ref 210), (.inr "rem", .ref 224), (.inr "remu", .ref 203), (.inr "mulw", .ref 189), (.inr "divw", .ref 238), (.inr "divuw", .ref 231), (.inr "remw", .ref 252), (.inr "remuw", .ref 245)] := kd_at (by kernel_rfl) (by decide) (by decide +kernel)
theorem D_1I (P : Params) : Def (kK P) "branch_holds" "branch_holds" (top 39) ["name", "a", "b"] 268 := def_at (by kernel_rfl) (by kernel_rfl) (by kernel_rfl) fun _ _ _ _ _ _ us hl => match us, hl with | [_, _, _], _ => rfl
theorem D_1J (P : Params) : Def (kK P) "write_register" "Machine.write_register" (inClass (top 177) 5) ["self", "which", "value"] 1099 := def_at (by kernel_rfl) (by kernel_rfl) (by kernel_rfl) fun _ _ _ _ _ _ us hl => match us, hl with | [_, _, _], _ => rfl
theorem Meth_6 (P : Params) : Meth (kK P) 1123 "write_register" 1099 := ⟨by kernel_rfl, by kernel_rfl, by kernel_rfl⟩
theorem D_1K (P : Params) : Def (kK P) "do_registers" "do_registers" (top 151) ["machine", "instruction", "after"] 883 := def_at (by kernel_rfl) (by kernel_rfl) (by kernel_rfl) fun _ _ _ _ _ _ us hl => match us, hl with | [_, _, _], _ => rfl
theorem m_8 (g : Gm w mg) : mg "NOT_STOPPED" = some (.int 0 1700) := g.at (by kernel_rfl)
theorem m_G (g : Gm w mg) : mg "compute" = some (.ref 261) := g.at (by kernel_rfl)
theorem D_1L (P : Params) : Def (kK P) "do_immediate" "do_immediate" (top 152) ["machine", "instruction", "after"] 890 := def_at (by kernel_rfl) (by kernel_rfl) (by kernel_rfl) fun _ _ _ _ _ _ us hl => match us, hl with | [_, _, _], _ => rfl
theorem D_1M (P : Params) : Def (kK P) "do_pc" "do_pc" (top 153) ["machine", "instruction", "after"] 897 := def_at (by kernel_rfl) (by kernel_rfl) (by kernel_rfl) fun _ _ _ _ _ _ us hl => match us, hl with | [_, _, _], _ => rfl
theorem D_1N (P : Params) : Def (kK P) "address_of" "address_of" (top 154) ["machine", "instruction"] 904 := def_at (by kernel_rfl) (by kernel_rfl) (by kernel_rfl) fun _ _ _ _ _ _ us hl => match us, hl with | [_, _], _ => rfl
theorem D_1O (P : Params) : Def (kK P) "do_load" "do_load" (top 155) ["machine", "instruction", "after"] 911 := def_at (by kernel_rfl) (by kernel_rfl) (by kernel_rfl) fun _ _ _ _ _ _ us hl => match us, hl with | [_, _, _], _ => rfl
theorem m_1k (g : Gm w mg) : mg "SIGNED_LOADS" = some (.ref 876) := g.at (by kernel_rfl)
theorem m_u (g : Gm w mg) : mg "NOT_IN_MEMORY" = some (.int 4 1702) := g.at (by kernel_rfl)
theorem m_H (g : Gm w mg) : mg "SIZES" = some (.ref 875) := g.at (by kernel_rfl)
theorem m_v (g : Gm w mg) : mg "address_of" = some (.ref 904) := g.at (by kernel_rfl)
theorem k_9 : KD rw8.prog w (kK w.params) 875 kv_0 := kd_at (by kernel_rfl) (by decide) (by decide +kernel)
theorem s_0 (P : Params) : ∀ H, SqT (kK P) H 876 [.str "lb", .str "lh", .str "lw"] := sqt_at (by kernel_rfl) (by decide)
theorem D_1P (P : Params) : Def (kK P) "do_store" "do_store" (top 156) ["machine", "instruction", "after"] 918 := def_at (by kernel_rfl) (by kernel_rfl) (by kernel_rfl) fun _ _ _ _ _ _ us hl => match us, hl with | [_, _, _], _ => rfl
theorem D_1Q (P : Params) : Def (kK P) "do_branch" "do_branch" (top 157) ["machine", "instruction", "after"] 925 := def_at (by kernel_rfl) (by kernel_rfl) (by kernel_rfl) fun _ _ _ _ _ _ us hl => match us, hl with | [_, _, _], _ => rfl
theorem m_1l (g : Gm w mg) : mg "branch_holds" = some (.ref 268) := g.at (by kernel_rfl)
theorem D_1R (P : Params) : Def (kK P) "do_jump" "do_jump" (top 158) ["machine", "instruction", "after"] 932 := def_at (by kernel_rfl) (by kernel_rfl) (by kernel_rfl) fun _ _ _ _ _ _ us hl => match us, hl with | [_, _, _], _ => rfl
theorem D_1S (P : Params) : Def (kK P) "do_jump_to" "do_jump_to" (top 159) ["machine", "instruction", "after"] 939 := def_at (by kernel_rfl) (by kernel_rfl) (by kernel_rfl) fun _ _ _ _ _ _ us hl => match us, hl with | [_, _, _], _ => rfl
theorem D_1T (P : Params) : Def (kK P) "do_nothing" "do_nothing" (top 160) ["machine", "instruction", "after"] 946 := def_at (by kernel_rfl) (by kernel_rfl) (by kernel_rfl) fun _ _ _ _ _ _ us hl => match us, hl with | [_, _, _], _ => rfl
theorem D_1U (P : Params) : Def (kK P) "do_stop" "do_stop" (top 161) ["machine", "instruction", "after"] 953 := def_at (by kernel_rfl) (by kernel_rfl) (by kernel_rfl) fun _ _ _ _ _ _ us hl => match us, hl with | [_, _, _], _ => rfl
theorem m_1m (g : Gm w mg) : mg "STOPS" = some (.ref 874) := g.at (by kernel_rfl)
theorem k_f : KD rw8.prog w (kK w.params) 874 kv_b := kd_at (by kernel_rfl) (by decide) (by decide +kernel)
theorem D_1V (P : Params) : Def (kK P) "length_of" "length_of" (top 163) ["word"] 961 := def_at (by kernel_rfl) (by kernel_rfl) (by kernel_rfl) fun _ _ _ _ _ _ us hl => match us, hl with | [_], _ => rfl
theorem D_1W (P : Params) : Def (kK P) "fetch" "fetch" (top 164) ["machine"] 968 := def_at (by kernel_rfl) (by kernel_rfl) (by kernel_rfl) fun _ _ _ _ _ _ us hl => match us, hl with | [_], _ => rfl
theorem m_w (g : Gm w mg) : mg "length_of" = some (.ref 961) := g.at (by kernel_rfl)
theorem D_1X (P : Params) : Def (kK P) "read_word" "read_word" (top 165) ["word"] 975 := def_at (by kernel_rfl) (by kernel_rfl) (by kernel_rfl) fun _ _ _ _ _ _ us hl => match us, hl with | [_], _ => rfl
theorem m_1n (g : Gm w mg) : mg "read_long" = some (.ref 582) := g.at (by kernel_rfl)
theorem m_1o (g : Gm w mg) : mg "read_short" = some (.ref 873) := g.at (by kernel_rfl)
theorem D_1Y (P : Params) : Def (kK P) "instruction_of" "instruction_of" (top 166) ["machine", "word"] 982 := def_at (by kernel_rfl) (by kernel_rfl) (by kernel_rfl) fun _ _ _ _ _ _ us hl => match us, hl with | [_, _], _ => rfl
theorem m_1p (g : Gm w mg) : mg "read_word" = some (.ref 975) := g.at (by kernel_rfl)
theorem n_0 (g : Gm w mg) : mg "len" = none := g.no (by kernel_rfl)
theorem m_1q (g : Gm w mg) : mg "MOST_KNOWN_WORDS" = some (.int 32768 1752) := g.at (by kernel_rfl)
theorem D_1Z (P : Params) : Def (kK P) "do_next" "do_next" (top 167) ["machine"] 989 := def_at (by kernel_rfl) (by kernel_rfl) (by kernel_rfl) fun _ _ _ _ _ _ us hl => match us, hl with | [_], _ => rfl
theorem m_1r (g : Gm w mg) : mg "DOERS" = some (.ref 954) := g.at (by kernel_rfl)
theorem m_1s (g : Gm w mg) : mg "instruction_of" = some (.ref 982) := g.at (by kernel_rfl)
theorem m_1t (g : Gm w mg) : mg "fetch" = some (.ref 968) := g.at (by kernel_rfl)
theorem k_3 : KD rw8.prog w (kK w.params) 954 [(.inr "registers", .ref 883), (.inr "immediate", .ref 890), (.inr "pc", .ref 897), (.inr "load", .ref 911), (.inr "store", .ref 918), (.inr "branch", .ref 925), (.inr "jump", .ref 932), (.inr "jump to", .ref 939), (.inr "nothing", .ref 946), (.inr "stop", .ref 953)] := kd_at (by kernel_rfl) (by decide) (by decide +kernel)
theorem D_20 (P : Params) : Def (kK P) "set_pc" "Machine.set_pc" (inClass (top 177) 4) ["self", "value"] 1092 := def_at (by kernel_rfl) (by kernel_rfl) (by kernel_rfl) fun _ _ _ _ _ _ us hl => match us, hl with | [_, _], _ => rfl
theorem Meth_7 (P : Params) : Meth (kK P) 1123 "set_pc" 1092 := ⟨by kernel_rfl, by kernel_rfl, by kernel_rfl⟩
theorem m_h (g : Gm w mg) : mg "DONE" = some (.int 0 2021) := g.at (by kernel_rfl)
theorem m_g (g : Gm w mg) : mg "REFUSED" = some (.int (-1) 2024) := g.at (by kernel_rfl)
theorem D_21 (P : Params) : Def (kK P) "set_value" "Machine.set_value" (inClass (top 177) 3) ["self", "which", "value"] 1085 := def_at (by kernel_rfl) (by kernel_rfl) (by kernel_rfl) fun _ _ _ _ _ _ us hl => match us, hl with | [_, _, _], _ => rfl
theorem Meth_8 (P : Params) : Meth (kK P) 1123 "set_value" 1085 := ⟨by kernel_rfl, by kernel_rfl, by kernel_rfl⟩
theorem m_x (g : Gm w mg) : mg "REGISTER_COUNT" = some (.int 32 2015) := g.at (by kernel_rfl)
theorem m_I (g : Gm w mg) : mg "PC_NUMBER" = some (.int 32 2017) := g.at (by kernel_rfl)
theorem D_22 (P : Params) : Def (kK P) "get_value" "Machine.get_value" (inClass (top 177) 6) ["self", "which"] 1106 := def_at (by kernel_rfl) (by kernel_rfl) (by kernel_rfl) fun _ _ _ _ _ _ us hl => match us, hl with | [_, _], _ => rfl
theorem Meth_9 (P : Params) : Meth (kK P) 1123 "get_value" 1106 := ⟨by kernel_rfl, by kernel_rfl, by kernel_rfl⟩
theorem D_23 (P : Params) : Def (kK P) "why" "Machine.why" (inClass (top 177) 8) ["self"] 1120 := def_at (by kernel_rfl) (by kernel_rfl) (by kernel_rfl) fun _ _ _ _ _ _ us hl => match us, hl with | [_], _ => rfl
theorem Meth_a (P : Params) : Meth (kK P) 1123 "why" 1120 := ⟨by kernel_rfl, by kernel_rfl, by kernel_rfl⟩
theorem D_24 (P : Params) : Def (kK P) "put" "Machine.put" (inClass (top 177) 1) ["self", "place", "row"] 1071 := def_at (by kernel_rfl) (by kernel_rfl) (by kernel_rfl) fun _ _ _ _ _ _ us hl => match us, hl with | [_, _, _], _ => rfl
theorem Meth_b (P : Params) : Meth (kK P) 1123 "put" 1071 := ⟨by kernel_rfl, by kernel_rfl, by kernel_rfl⟩
theorem D_25 (P : Params) : Def (kK P) "take" "Machine.take" (inClass (top 177) 2) ["self", "place", "n"] 1078 := def_at (by kernel_rfl) (by kernel_rfl) (by kernel_rfl) fun _ _ _ _ _ _ us hl => match us, hl with | [_, _, _], _ => rfl
theorem Meth_c (P : Params) : Meth (kK P) 1123 "take" 1078 := ⟨by kernel_rfl, by kernel_rfl, by kernel_rfl⟩
theorem D_26 (P : Params) : Def (kK P) "run" "Machine.run" (inClass (top 177) 7) ["self", "steps"] 1113 := def_at (by kernel_rfl) (by kernel_rfl) (by kernel_rfl) fun _ _ _ _ _ _ us hl => match us, hl with | [_, _], _ => rfl
theorem Meth_d (P : Params) : Meth (kK P) 1123 "run" 1113 := ⟨by kernel_rfl, by kernel_rfl, by kernel_rfl⟩
theorem m_1u (g : Gm w mg) : mg "do_next" = some (.ref 989) := g.at (by kernel_rfl)
theorem m_1v (g : Gm w mg) : mg "MOST_STEPS" = some (.int 1099511627776 2019) := g.at (by kernel_rfl)
theorem D_27 (P : Params) : Def (kK P) "__init__" "Reader.__init__" (inClass (top 179) 0) ["self", "numbers"] 1141 := def_at (by kernel_rfl) (by kernel_rfl) (by kernel_rfl) fun _ _ _ _ _ _ us hl => match us, hl with | [_, _], _ => rfl
theorem Mk_2 (P : Params) : Mk (kK P) 1165 1141 := ⟨by kernel_rfl, by kernel_rfl, by kernel_rfl, by kernel_rfl⟩
theorem D_28 (P : Params) : Def (kK P) "has_more" "Reader.has_more" (inClass (top 179) 1) ["self"] 1148 := def_at (by kernel_rfl) (by kernel_rfl) (by kernel_rfl) fun _ _ _ _ _ _ us hl => match us, hl with | [_], _ => rfl
theorem Meth_e (P : Params) : Meth (kK P) 1165 "has_more" 1148 := ⟨by kernel_rfl, by kernel_rfl, by kernel_rfl⟩
theorem D_29 (P : Params) : Def (kK P) "read_number" "Reader.read_number" (inClass (top 179) 2) ["self"] 1155 := def_at (by kernel_rfl) (by kernel_rfl) (by kernel_rfl) fun _ _ _ _ _ _ us hl => match us, hl with | [_], _ => rfl
theorem Meth_f (P : Params) : Meth (kK P) 1165 "read_number" 1155 := ⟨by kernel_rfl, by kernel_rfl, by kernel_rfl⟩
theorem D_2a (P : Params) : Def (kK P) "read_row" "Reader.read_row" (inClass (top 179) 3) ["self"] 1162 := def_at (by kernel_rfl) (by kernel_rfl) (by kernel_rfl) fun _ _ _ _ _ _ us hl => match us, hl with | [_], _ => rfl
theorem Meth_g (P : Params) : Meth (kK P) 1165 "read_row" 1162 := ⟨by kernel_rfl, by kernel_rfl, by kernel_rfl⟩
theorem D_2b (P : Params) : Def (kK P) "answer_put" "answer_put" (top 188) ["machine", "reader"] 1189 := def_at (by kernel_rfl) (by kernel_rfl) (by kernel_rfl) fun _ _ _ _ _ _ us hl => match us, hl with | [_, _], _ => rfl
theorem D_2c (P : Params) : Def (kK P) "answer_take" "answer_take" (top 189) ["machine", "reader"] 1196 := def_at (by kernel_rfl) (by kernel_rfl) (by kernel_rfl) fun _ _ _ _ _ _ us hl => match us, hl with | [_, _], _ => rfl
theorem D_2d (P : Params) : Def (kK P) "answer_set" "answer_set" (top 190) ["machine", "reader"] 1203 := def_at (by kernel_rfl) (by kernel_rfl) (by kernel_rfl) fun _ _ _ _ _ _ us hl => match us, hl with | [_, _], _ => rfl
theorem D_2e (P : Params) : Def (kK P) "answer_get" "answer_get" (top 191) ["machine", "reader"] 1210 := def_at (by kernel_rfl) (by kernel_rfl) (by kernel_rfl) fun _ _ _ _ _ _ us hl => match us, hl with | [_, _], _ => rfl
theorem D_2f (P : Params) : Def (kK P) "answer_run" "answer_run" (top 192) ["machine", "reader"] 1217 := def_at (by kernel_rfl) (by kernel_rfl) (by kernel_rfl) fun _ _ _ _ _ _ us hl => match us, hl with | [_, _], _ => rfl
theorem D_2g (P : Params) : Def (kK P) "answer_call" "answer_call" (top 193) ["machine", "reader"] 1224 := def_at (by kernel_rfl) (by kernel_rfl) (by kernel_rfl) fun _ _ _ _ _ _ us hl => match us, hl with | [_, _], _ => rfl
theorem m_1w (g : Gm w mg) : mg "WHY" = some (.int 6 2194) := g.at (by kernel_rfl)
theorem m_1x (g : Gm w mg) : mg "RUN" = some (.int 5 2192) := g.at (by kernel_rfl)
theorem m_1y (g : Gm w mg) : mg "answer_run" = some (.ref 1217) := g.at (by kernel_rfl)
theorem m_1z (g : Gm w mg) : mg "GET" = some (.int 4 2190) := g.at (by kernel_rfl)
theorem m_1A (g : Gm w mg) : mg "answer_get" = some (.ref 1210) := g.at (by kernel_rfl)
theorem m_1B (g : Gm w mg) : mg "SET" = some (.int 3 2188) := g.at (by kernel_rfl)
theorem m_1C (g : Gm w mg) : mg "answer_set" = some (.ref 1203) := g.at (by kernel_rfl)
theorem m_1D (g : Gm w mg) : mg "TAKE" = some (.int 2 2186) := g.at (by kernel_rfl)
theorem m_1E (g : Gm w mg) : mg "answer_take" = some (.ref 1196) := g.at (by kernel_rfl)
theorem m_1F (g : Gm w mg) : mg "PUT" = some (.int 1 2184) := g.at (by kernel_rfl)
theorem m_1G (g : Gm w mg) : mg "answer_put" = some (.ref 1189) := g.at (by kernel_rfl)
theorem D_2h (P : Params) : Def (kK P) "__init__" "Machine.__init__" (inClass (top 177) 0) ["self"] 1064 := def_at (by kernel_rfl) (by kernel_rfl) (by kernel_rfl) fun _ _ _ _ _ _ us hl => match us, hl with | [_], _ => rfl
theorem Mk_3 (P : Params) : Mk (kK P) 1123 1064 := ⟨by kernel_rfl, by kernel_rfl, by kernel_rfl, by kernel_rfl⟩
theorem m_1H (g : Gm w mg) : mg "Memory" = some (.ref 1046) := g.at (by kernel_rfl)
theorem D_2i (P : Params) : Def (kK P) "answers" "answers" (top 194) ["calls"] 1231 := def_at (by kernel_rfl) (by kernel_rfl) (by kernel_rfl) fun _ _ _ _ _ _ us hl => match us, hl with | [_], _ => rfl
theorem m_1I (g : Gm w mg) : mg "answer_call" = some (.ref 1224) := g.at (by kernel_rfl)
theorem m_1J (g : Gm w mg) : mg "Reader" = some (.ref 1165) := g.at (by kernel_rfl)
theorem m_1K (g : Gm w mg) : mg "Machine" = some (.ref 1123) := g.at (by kernel_rfl)
theorem c_3 (P : Params) : Cls (kK P) 285 := ⟨by kernel_rfl, by kernel_rfl, by kernel_rfl, by kernel_rfl⟩
theorem c_0 (P : Params) : Cls (kK P) 1123 := ⟨by kernel_rfl, by kernel_rfl, by kernel_rfl, by kernel_rfl⟩
theorem c_2 (P : Params) : Cls (kK P) 1046 := ⟨by kernel_rfl, by kernel_rfl, by kernel_rfl, by kernel_rfl⟩
theorem c_1 (P : Params) : Cls (kK P) 1165 := ⟨by kernel_rfl, by kernel_rfl, by kernel_rfl, by kernel_rfl⟩
theorem InsC_Instruction (P : Params) : InsC (kK P) 285 := by constructor <;> first | exact c_3 P | (show PySem.W.findIn _ _ _ = _; kernel_rfl)
theorem MchC_Machine (P : Params) : MchC (kK P) 1123 := by constructor <;> first | exact c_0 P | (show PySem.W.findIn _ _ _ = _; kernel_rfl)
theorem MemC_Memory (P : Params) : MemC (kK P) 1046 := by constructor <;> first | exact c_2 P | (show PySem.W.findIn _ _ _ = _; kernel_rfl)
theorem RdC_Reader (P : Params) : RdC (kK P) 1165 := by constructor <;> first | exact c_1 P | (show PySem.W.findIn _ _ _ = _; kernel_rfl)
end
end Sp8
end
section
namespace Sp8
open PySem PySem.Spec PyProof.Rows L2
theorem chain {w : World} {mg : Str → Option Value} {base : Heap} (g : Gm w mg)
    : Ok PySem.Challenge.rw_smallcore_s01_answers.prog w (kK w.params) mg base 14 1231 ["calls"] (spAnswers (kK w.params)) := by
  have G_4 := ok_0 (P := rw8.prog) (w := w) (K := kK w.params) (mg := mg) (base := base) (D_0 w.params) (m_L g)
  have G_0 := ok_1 (P := rw8.prog) (w := w) (K := kK w.params) (mg := mg) (base := base) (D_1 w.params)
  have G_5 := ok_2 (P := rw8.prog) (w := w) (K := kK w.params) (mg := mg) (base := base) (D_2 w.params) (m_0 g) G_0
  have G_1 := ok_3 (P := rw8.prog) (w := w) (K := kK w.params) (mg := mg) (base := base) (D_3 w.params) (m_4 g) G_4 (m_5 g) G_5
  have G_1i := ok_4 (P := rw8.prog) (w := w) (K := kK w.params) (mg := mg) (base := base) (D_4 w.params) (m_4 g) G_4
  have G_1j := ok_5 (P := rw8.prog) (w := w) (K := kK w.params) (mg := mg) (base := base) (D_5 w.params) (m_4 g) G_4
  have G_1k := ok_6 (P := rw8.prog) (w := w) (K := kK w.params) (mg := mg) (base := base) (D_6 w.params)
  have G_1l := ok_7 (P := rw8.prog) (w := w) (K := kK w.params) (mg := mg) (base := base) (D_7 w.params)
  have G_1m := ok_8 (P := rw8.prog) (w := w) (K := kK w.params) (mg := mg) (base := base) (D_8 w.params)
  have G_1n := ok_9 (P := rw8.prog) (w := w) (K := kK w.params) (mg := mg) (base := base) (D_9 w.params) (m_4 g) G_4 (m_0 g) G_0
  have G_1o := ok_a (P := rw8.prog) (w := w) (K := kK w.params) (mg := mg) (base := base) (D_a w.params) (m_0 g) G_0
  have G_1p := ok_b (P := rw8.prog) (w := w) (K := kK w.params) (mg := mg) (base := base) (D_b w.params) (m_4 g) G_4 (m_5 g) G_5 (m_0 g) G_0
  have G_w := ok_c (P := rw8.prog) (w := w) (K := kK w.params) (mg := mg) (base := base) (D_c w.params)
  have G_1q := ok_d (P := rw8.prog) (w := w) (K := kK w.params) (mg := mg) (base := base) (D_d w.params) (m_M g) G_w (m_5 g) G_5
  have G_1r := ok_e (P := rw8.prog) (w := w) (K := kK w.params) (mg := mg) (base := base) (D_e w.params) (m_1 g) G_1
  have G_1s := ok_f (P := rw8.prog) (w := w) (K := kK w.params) (mg := mg) (base := base) (D_f w.params) (m_1 g) G_1
  have G_1t := ok_g (P := rw8.prog) (w := w) (K := kK w.params) (mg := mg) (base := base) (D_g w.params) (m_1 g) G_1 (m_0 g) G_0
  have G_1u := ok_h (P := rw8.prog) (w := w) (K := kK w.params) (mg := mg) (base := base) (D_h w.params) (m_1 g) G_1 (m_0 g) G_0
  have G_1v := ok_i (P := rw8.prog) (w := w) (K := kK w.params) (mg := mg) (base := base) (D_i w.params) (m_4 g) G_4 (m_5 g) G_5 (m_0 g) G_0
  have G_1w := ok_j (P := rw8.prog) (w := w) (K := kK w.params) (mg := mg) (base := base) (D_j w.params) (m_4 g) G_4
  have G_1z := ok_k (P := rw8.prog) (w := w) (K := kK w.params) (mg := mg) (base := base) (D_k w.params)
  have G_1x := ok_l (P := rw8.prog) (w := w) (K := kK w.params) (mg := mg) (base := base) (D_l w.params) (m_4 g) G_4 (m_5 g) G_5
  have G_1y := ok_m (P := rw8.prog) (w := w) (K := kK w.params) (mg := mg) (base := base) (D_m w.params) (m_4 g) G_4 (m_5 g) G_5
  have G_1D := ok_n (P := rw8.prog) (w := w) (K := kK w.params) (mg := mg) (base := base) (D_n w.params) (m_1 g) G_1
  have G_h := ok_o (P := rw8.prog) (w := w) (K := kK w.params) (mg := mg) (base := base) (D_o w.params) (n_2 g)
  have G_m := ok_p (P := rw8.prog) (w := w) (K := kK w.params) (mg := mg) (base := base) (D_p w.params) (m_i g) G_h
  have G_1B := ok_q (P := rw8.prog) (w := w) (K := kK w.params) (mg := mg) (base := base) (D_q w.params) (m_4 g) G_4 (m_i g) G_h
  have G_1A := ok_r (P := rw8.prog) (w := w) (K := kK w.params) (mg := mg) (base := base) (D_r w.params) (m_4 g) G_4 (m_i g) G_h (m_5 g) G_5
  have G_1C := ok_s (P := rw8.prog) (w := w) (K := kK w.params) (mg := mg) (base := base) (D_s w.params) (m_4 g) G_4 (m_q g) G_m (m_5 g) G_5
  have G_1F := ok_t (P := rw8.prog) (w := w) (K := kK w.params) (mg := mg) (base := base) (D_t w.params) (m_1 g) G_1 (m_i g) G_h (m_0 g) G_0
  have G_1E := ok_u (P := rw8.prog) (w := w) (K := kK w.params) (mg := mg) (base := base) (D_u w.params) (m_1 g) G_1 (m_i g) G_h (m_5 g) G_5
  have G_1H := ok_v (P := rw8.prog) (w := w) (K := kK w.params) (mg := mg) (base := base) (D_v w.params) (m_1 g) G_1 (m_q g) G_m (m_0 g) G_0
  have G_1G := ok_w (P := rw8.prog) (w := w) (K := kK w.params) (mg := mg) (base := base) (D_w w.params) (m_1 g) G_1 (m_q g) G_m (m_5 g) G_5
  have G_2 := ok_x (P := rw8.prog) (w := w) (K := kK w.params) (mg := mg) (base := base) (D_x w.params) (m_0 g) G_0
  have G_a := okC_of (ok_y (P := rw8.prog) (w := w) (K := kK w.params) (mg := mg) (base := base) (C_0 := 285) (D_y w.params) (InsC_Instruction w.params)) (Mk_0 w.params)
  have G_k := ok_z (P := rw8.prog) (w := w) (K := kK w.params) (mg := mg) (base := base) (C_0 := 285) (D_z w.params) (m_b g) G_a
  have G_6 := ok_A (P := rw8.prog) (w := w) (K := kK w.params) (mg := mg) (base := base) (C_0 := 285) (D_A w.params) (m_b g) G_a
  have G_E := ok_B (P := rw8.prog) (w := w) (K := kK w.params) (mg := mg) (base := base) (C_0 := 285) (D_B w.params) (m_b g) G_a
  have G_i := ok_C (P := rw8.prog) (w := w) (K := kK w.params) (mg := mg) (base := base) (C_0 := 285) (D_C w.params) (m_b g) G_a
  have G_j := ok_D (P := rw8.prog) (w := w) (K := kK w.params) (mg := mg) (base := base) (C_0 := 285) (D_D w.params) (m_b g) G_a
  have G_s := ok_E (P := rw8.prog) (w := w) (K := kK w.params) (mg := mg) (base := base) (C_0 := 285) (D_E w.params) (m_b g) G_a
  have G_y := ok_F (P := rw8.prog) (w := w) (K := kK w.params) (mg := mg) (base := base) (C_0 := 285) (D_F w.params) (m_b g) G_a
  have G_r := ok_G (P := rw8.prog) (w := w) (K := kK w.params) (mg := mg) (base := base) (C_0 := 285) (D_G w.params) (m_b g) G_a
  have G_H := ok_H (P := rw8.prog) (w := w) (K := kK w.params) (mg := mg) (base := base) (C_0 := 285) (D_H w.params) (m_b g) G_a
  have G_q := ok_I (P := rw8.prog) (w := w) (K := kK w.params) (mg := mg) (base := base) (C_0 := 285) (D_I w.params) (m_b g) G_a
  have G_3 := ok_J (P := rw8.prog) (w := w) (K := kK w.params) (mg := mg) (base := base) (C_0 := 285) (D_J w.params) (m_r g) G_q
  have G_8 := ok_K (P := rw8.prog) (w := w) (K := kK w.params) (mg := mg) (base := base) (D_K w.params) (m_0 g) G_0
  have G_9 := ok_L (P := rw8.prog) (w := w) (K := kK w.params) (mg := mg) (base := base) (D_L w.params) (m_0 g) G_0
  have G_b := ok_M (P := rw8.prog) (w := w) (K := kK w.params) (mg := mg) (base := base) (D_M w.params) (m_0 g) G_0
  have G_o := ok_N (P := rw8.prog) (w := w) (K := kK w.params) (mg := mg) (base := base) (D_N w.params) (m_0 g) G_0
  have G_n := ok_O (P := rw8.prog) (w := w) (K := kK w.params) (mg := mg) (base := base) (D_O w.params) (m_1 g) G_1 (m_2 g) G_2 (m_N g) (p_4 w.params)
  have G_x := ok_P (P := rw8.prog) (w := w) (K := kK w.params) (mg := mg) (base := base) (D_P w.params) (m_1 g) G_1 (m_2 g) G_2 (m_O g) (p_5 w.params)
  have G_P := ok_Q (P := rw8.prog) (w := w) (K := kK w.params) (mg := mg) (base := base) (C_0 := 285) (D_Q w.params) (m_6 g) G_6 (m_z g) G_x (m_9 g) G_8
  have G_L := ok_R (P := rw8.prog) (w := w) (K := kK w.params) (mg := mg) (base := base) (C_0 := 285) (D_R w.params) (m_P g) G_E (m_z g) G_x (m_9 g) G_8
  have G_T := ok_S (P := rw8.prog) (w := w) (K := kK w.params) (mg := mg) (base := base) (C_0 := 285) (D_S w.params) (m_A g) G_y (m_1 g) G_1 (m_2 g) G_2 (m_Q g) (m_9 g) G_8 (p_6 w.params)
  have G_S := ok_T (P := rw8.prog) (w := w) (K := kK w.params) (mg := mg) (base := base) (C_0 := 285) (D_T w.params) (m_s g) G_r (m_n g) G_n (m_c g) G_b (m_9 g) G_8 (m_a g) G_9 (m_3 g) G_3
  have G_R := ok_U (P := rw8.prog) (w := w) (K := kK w.params) (mg := mg) (base := base) (C_0 := 285) (D_U w.params) (m_t g) G_s (m_1 g) G_1 (m_2 g) G_2 (m_R g) (m_o g) G_o (m_c g) G_b (m_3 g) G_3 (m_S g) (m_a g) G_9 k_5 (p_7 w.params)
  have G_I := ok_V (P := rw8.prog) (w := w) (K := kK w.params) (mg := mg) (base := base) (C_0 := 285) (D_V w.params) (m_j g) G_i (m_n g) G_n (m_c g) G_b (m_9 g) G_8 (m_3 g) G_3 (m_T g) (m_a g) G_9 k_6
  have G_N := ok_W (P := rw8.prog) (w := w) (K := kK w.params) (mg := mg) (base := base) (C_0 := 285) (D_W w.params) (m_k g) G_j (m_1 g) G_1 (m_2 g) G_2 (m_U g) (m_o g) G_o (m_c g) G_b (m_3 g) G_3 (m_V g) (m_a g) G_9 k_7 (p_8 w.params)
  have G_F := ok_X (P := rw8.prog) (w := w) (K := kK w.params) (mg := mg) (base := base) (C_0 := 285) (D_X w.params) (m_6 g) G_6 (m_0 g) G_0 (m_c g) G_b (m_9 g) G_8 (m_3 g) G_3 (m_W g) (m_a g) G_9 k_a
  have G_G := ok_Y (P := rw8.prog) (w := w) (K := kK w.params) (mg := mg) (base := base) (C_0 := 285) (D_Y w.params) (m_6 g) G_6 (m_0 g) G_0 (m_c g) G_b (m_9 g) G_8 (m_3 g) G_3 (m_X g) (m_a g) G_9 k_b
  have G_K := ok_Z (P := rw8.prog) (w := w) (K := kK w.params) (mg := mg) (base := base) (C_0 := 285) (D_Z w.params) (m_6 g) G_6 (m_n g) G_n (m_c g) G_b (m_9 g) G_8 (m_Y g) G_F (m_Z g) (m_a g) G_9 k_8
  have G_M := ok_10 (P := rw8.prog) (w := w) (K := kK w.params) (mg := mg) (base := base) (C_0 := 285) (D_10 w.params) (m_6 g) G_6 (m_n g) G_n (m_c g) G_b (m_9 g) G_8 (m_a g) G_9 (m_10 g) G_G
  have G_O := ok_11 (P := rw8.prog) (w := w) (K := kK w.params) (mg := mg) (base := base) (C_0 := 285) (D_11 w.params) (m_l g) G_k (m_o g) G_o (m_c g) G_b (m_9 g) G_8 (m_3 g) G_3 (m_11 g) (m_a g) G_9 (m_0 g) G_0 k_c
  have G_Q := ok_12 (P := rw8.prog) (w := w) (K := kK w.params) (mg := mg) (base := base) (C_0 := 285) (D_12 w.params) (m_l g) G_k (m_o g) G_o (m_c g) G_b (m_9 g) G_8 (m_3 g) G_3 (m_12 g) (m_a g) G_9 (m_0 g) G_0 k_d
  have G_J := ok_13 (P := rw8.prog) (w := w) (K := kK w.params) (mg := mg) (base := base) (C_0 := 285) (D_13 w.params) (m_13 g) G_H (m_a g) G_9 (m_3 g) G_3
  have G_U := ok_14 (P := rw8.prog) (w := w) (K := kK w.params) (mg := mg) (base := base) (C_0 := 285) (D_14 w.params) (m_r g) G_q (m_3 g) G_3 (m_14 g) k_4
  have G_1L := ok_15 (P := rw8.prog) (w := w) (K := kK w.params) (mg := mg) (base := base) (C_0 := 285) (D_15 w.params) (m_J g) (m_3 g) G_3 (m_0 g) G_0 k_2 G_I G_J G_K G_L G_M G_N G_O G_P G_Q G_R G_S G_T G_U
  have G_7 := ok_16 (P := rw8.prog) (w := w) (K := kK w.params) (mg := mg) (base := base) (D_16 w.params) (m_0 g) G_0
  have G_l := ok_17 (P := rw8.prog) (w := w) (K := kK w.params) (mg := mg) (base := base) (D_17 w.params) (m_0 g) G_0
  have G_c := ok_18 (P := rw8.prog) (w := w) (K := kK w.params) (mg := mg) (base := base) (D_18 w.params) (m_0 g) G_0
  have G_f := ok_19 (P := rw8.prog) (w := w) (K := kK w.params) (mg := mg) (base := base) (D_19 w.params) (m_0 g) G_0
  have G_p := ok_1a (P := rw8.prog) (w := w) (K := kK w.params) (mg := mg) (base := base) (D_1a w.params) (m_1 g) G_1 (m_2 g) G_2 (m_B g) (p_0 w.params)
  have G_v := ok_1b (P := rw8.prog) (w := w) (K := kK w.params) (mg := mg) (base := base) (D_1b w.params) (m_2 g) G_2 (m_B g) (p_0 w.params)
  have G_Z := ok_1c (P := rw8.prog) (w := w) (K := kK w.params) (mg := mg) (base := base) (C_0 := 285) (D_1c w.params) (m_6 g) G_6 (m_e g) (m_f g) G_f (m_3 g) G_3 (m_2 g) G_2 (m_15 g) (p_9 w.params)
  have G_10 := ok_1d (P := rw8.prog) (w := w) (K := kK w.params) (mg := mg) (base := base) (C_0 := 285) (D_1d w.params) (m_j g) G_i (m_2 g) G_2 (m_C g) (m_d g) G_c (m_f g) G_f (p_1 w.params)
  have G_11 := ok_1e (P := rw8.prog) (w := w) (K := kK w.params) (mg := mg) (base := base) (C_0 := 285) (D_1e w.params) (m_j g) G_i (m_2 g) G_2 (m_D g) (m_d g) G_c (m_f g) G_f (p_2 w.params)
  have G_12 := ok_1f (P := rw8.prog) (w := w) (K := kK w.params) (mg := mg) (base := base) (C_0 := 285) (D_1f w.params) (m_k g) G_j (m_2 g) G_2 (m_C g) (m_f g) G_f (m_d g) G_c (p_1 w.params)
  have G_13 := ok_1g (P := rw8.prog) (w := w) (K := kK w.params) (mg := mg) (base := base) (C_0 := 285) (D_1g w.params) (m_k g) G_j (m_2 g) G_2 (m_D g) (m_f g) G_f (m_d g) G_c (p_2 w.params)
  have G_14 := ok_1h (P := rw8.prog) (w := w) (K := kK w.params) (mg := mg) (base := base) (C_0 := 285) (D_1h w.params) (m_6 g) G_6 (m_p g) G_p (m_7 g) G_7
  have G_15 := ok_1i (P := rw8.prog) (w := w) (K := kK w.params) (mg := mg) (base := base) (C_0 := 285) (D_1i w.params) (m_6 g) G_6 (m_p g) G_p (m_7 g) G_7 (m_3 g) G_3
  have G_16 := ok_1j (P := rw8.prog) (w := w) (K := kK w.params) (mg := mg) (base := base) (C_0 := 285) (D_1j w.params) (m_6 g) G_6 (m_p g) G_p (m_7 g) G_7
  have G_V := ok_1k (P := rw8.prog) (w := w) (K := kK w.params) (mg := mg) (base := base) (C_0 := 285) (D_1k w.params) (m_6 g) G_6 (m_e g) (m_3 g) G_3 (m_1 g) G_1 (m_2 g) G_2 (m_16 g) (p_a w.params)
  have G_17 := ok_1l (P := rw8.prog) (w := w) (K := kK w.params) (mg := mg) (base := base) (C_0 := 285) (D_1l w.params) (m_6 g) G_6 (m_7 g) G_7 (m_3 g) G_3 (m_1 g) G_1 (m_2 g) G_2 (m_17 g) (m_e g) (m_18 g) G_V (p_b w.params)
  have G_W := ok_1m (P := rw8.prog) (w := w) (K := kK w.params) (mg := mg) (base := base) (C_0 := 285) (D_1m w.params) (m_l g) G_k (m_f g) G_f (m_d g) G_c (m_3 g) G_3 (m_19 g) (m_0 g) G_0 k_e
  have G_18 := ok_1n (P := rw8.prog) (w := w) (K := kK w.params) (mg := mg) (base := base) (C_0 := 285) (D_1n w.params) (m_1a g) G_W (m_6 g) G_6 (m_p g) G_p (m_y g) G_v (m_d g) G_c (m_0 g) G_0
  have G_19 := ok_1o (P := rw8.prog) (w := w) (K := kK w.params) (mg := mg) (base := base) (C_0 := 285) (D_1o w.params) (m_A g) G_y (m_1 g) G_1 (m_2 g) G_2 (m_1b g) (p_c w.params)
  have G_1a := ok_1p (P := rw8.prog) (w := w) (K := kK w.params) (mg := mg) (base := base) (C_0 := 285) (D_1p w.params) (m_t g) G_s (m_1 g) G_1 (m_2 g) G_2 (m_E g) (m_d g) G_c (p_3 w.params)
  have G_1b := ok_1q (P := rw8.prog) (w := w) (K := kK w.params) (mg := mg) (base := base) (C_0 := 285) (D_1q w.params) (m_t g) G_s (m_1 g) G_1 (m_2 g) G_2 (m_E g) (m_d g) G_c (p_3 w.params)
  have G_1c := ok_1r (P := rw8.prog) (w := w) (K := kK w.params) (mg := mg) (base := base) (C_0 := 285) (D_1r w.params) (m_6 g) G_6 (m_y g) G_v (m_7 g) G_7
  have G_1d := ok_1s (P := rw8.prog) (w := w) (K := kK w.params) (mg := mg) (base := base) (C_0 := 285) (D_1s w.params) (m_j g) G_i (m_2 g) G_2 (m_1c g) (m_e g) (m_7 g) G_7 (m_3 g) G_3 (p_d w.params)
  have G_1e := ok_1t (P := rw8.prog) (w := w) (K := kK w.params) (mg := mg) (base := base) (C_0 := 285) (D_1t w.params) (m_j g) G_i (m_2 g) G_2 (m_1d g) (m_e g) (m_7 g) G_7 (m_3 g) G_3 (p_e w.params)
  have G_1g := ok_1u (P := rw8.prog) (w := w) (K := kK w.params) (mg := mg) (base := base) (C_0 := 285) (D_1u w.params) (m_k g) G_j (m_2 g) G_2 (m_1e g) (m_m g) G_l (m_e g) (p_f w.params)
  have G_1h := ok_1v (P := rw8.prog) (w := w) (K := kK w.params) (mg := mg) (base := base) (C_0 := 285) (D_1v w.params) (m_k g) G_j (m_2 g) G_2 (m_1f g) (m_m g) G_l (m_e g) (p_g w.params)
  have G_Y := ok_1w (P := rw8.prog) (w := w) (K := kK w.params) (mg := mg) (base := base) (C_0 := 285) (D_1w w.params) (m_s g) G_r (m_7 g) G_7 (m_3 g) G_3 (m_m g) G_l (m_l g) G_k
  have G_X := ok_1x (P := rw8.prog) (w := w) (K := kK w.params) (mg := mg) (base := base) (C_0 := 285) (D_1x w.params) (m_s g) G_r (m_7 g) G_7 (m_1g g) (m_r g) G_q (m_m g) G_l (m_l g) G_k
  have G_1f := ok_1y (P := rw8.prog) (w := w) (K := kK w.params) (mg := mg) (base := base) (C_0 := 285) (D_1y w.params) (m_1h g) G_X (m_0 g) G_0 (m_1i g) G_Y
  have G_1M := ok_1z (P := rw8.prog) (w := w) (K := kK w.params) (mg := mg) (base := base) (C_0 := 285) (D_1z w.params) (m_K g) (m_3 g) G_3 (m_0 g) G_0 k_0 G_Z G_10 G_11 G_12 G_13 G_14 G_15 G_16 G_17 G_18 G_19 G_1a G_1b G_1c G_1d G_1e G_1f G_1g G_1h
  have G_2d := okC_of (ok_1A (P := rw8.prog) (w := w) (K := kK w.params) (mg := mg) (base := base) (C_1 := 1046) (D_1A w.params) (m_F g) (MemC_Memory w.params)) (Mk_1 w.params)
  have G_g := okM_of (ok_1B (P := rw8.prog) (w := w) (K := kK w.params) (mg := mg) (base := base) (D_1B w.params) (m_F g)) (Meth_0 w.params)
  have G_z := okM_of (ok_1C (P := rw8.prog) (w := w) (K := kK w.params) (mg := mg) (base := base) (C_1 := 1046) (D_1C w.params) (n_3 g) (MemC_Memory w.params)) (Meth_1 w.params)
  have G_1Z := okM_of (ok_1D (P := rw8.prog) (w := w) (K := kK w.params) (mg := mg) (base := base) (C_1 := 1046) (D_1D w.params) (MemC_Memory w.params)) (Meth_2 w.params)
  have G_1J := okM_of (ok_1E (P := rw8.prog) (w := w) (K := kK w.params) (mg := mg) (base := base) (C_1 := 1046) (D_1E w.params) (c_2 w.params) G_z (n_1 g)) (Meth_3 w.params)
  have G_C := okM_of (ok_1F (P := rw8.prog) (w := w) (K := kK w.params) (mg := mg) (base := base) (C_1 := 1046) (D_1F w.params) (MemC_Memory w.params)) (Meth_4 w.params)
  have G_1I := okM_of (ok_1G (P := rw8.prog) (w := w) (K := kK w.params) (mg := mg) (base := base) (C_1 := 1046) (D_1G w.params) (n_1 g) (MemC_Memory w.params)) (Meth_5 w.params)
  have G_A := ok_1H (P := rw8.prog) (w := w) (K := kK w.params) (mg := mg) (base := base) (D_1H w.params) (m_1j g) k_1 G_1i G_1j G_1k G_1l G_1m G_1n G_1o G_1p G_1q G_w G_1r G_1s G_1t G_1u G_1v G_1w G_1x G_1y G_1z G_1A G_1B G_1C G_m G_1D G_1E G_1F G_1G G_1H
  have G_1K := ok_1I (P := rw8.prog) (w := w) (K := kK w.params) (mg := mg) (base := base) (D_1I w.params) (m_5 g) G_5
  have G_e := okM_of (ok_1J (P := rw8.prog) (w := w) (K := kK w.params) (mg := mg) (base := base) (C_2 := 1123) (C_1 := 1046) (C_0 := 285) (D_1J w.params) (MchC_Machine w.params)) (Meth_6 w.params)
  have G_1Q := ok_1K (P := rw8.prog) (w := w) (K := kK w.params) (mg := mg) (base := base) (C_2 := 1123) (C_1 := 1046) (C_0 := 285) (D_1K w.params) (m_8 g) (c_0 w.params) G_e (m_G g) G_A (MchC_Machine w.params) (MemC_Memory w.params) (InsC_Instruction w.params)
  have G_D := ok_1L (P := rw8.prog) (w := w) (K := kK w.params) (mg := mg) (base := base) (C_2 := 1123) (C_1 := 1046) (C_0 := 285) (D_1L w.params) (m_8 g) (c_0 w.params) G_e (m_G g) G_A (MchC_Machine w.params) (MemC_Memory w.params) (InsC_Instruction w.params)
  have G_1R := ok_1M (P := rw8.prog) (w := w) (K := kK w.params) (mg := mg) (base := base) (C_2 := 1123) (C_1 := 1046) (C_0 := 285) (D_1M w.params) (m_8 g) (c_0 w.params) G_e (m_4 g) G_4 (MchC_Machine w.params) (MemC_Memory w.params) (InsC_Instruction w.params)
  have G_t := ok_1N (P := rw8.prog) (w := w) (K := kK w.params) (mg := mg) (base := base) (C_2 := 1123) (C_1 := 1046) (C_0 := 285) (D_1N w.params) (m_4 g) G_4 (MchC_Machine w.params) (MemC_Memory w.params) (InsC_Instruction w.params)
  have G_1S := ok_1O (P := rw8.prog) (w := w) (K := kK w.params) (mg := mg) (base := base) (C_2 := 1123) (C_1 := 1046) (C_0 := 285) (D_1O w.params) (m_8 g) (c_0 w.params) G_e (m_1k g) (m_1 g) G_1 (c_2 w.params) G_1I G_g (m_u g) (m_H g) (m_v g) G_t k_9 (s_0 w.params) (MchC_Machine w.params) (MemC_Memory w.params) (InsC_Instruction w.params)
  have G_1T := ok_1P (P := rw8.prog) (w := w) (K := kK w.params) (mg := mg) (base := base) (C_1 := 1046) (C_2 := 1123) (C_0 := 285) (D_1P w.params) (m_8 g) (c_2 w.params) G_1J G_g (m_u g) (m_H g) (m_v g) G_t k_9 (MchC_Machine w.params) (MemC_Memory w.params) (InsC_Instruction w.params)
  have G_1U := ok_1Q (P := rw8.prog) (w := w) (K := kK w.params) (mg := mg) (base := base) (C_2 := 1123) (C_1 := 1046) (C_0 := 285) (D_1Q w.params) (m_8 g) (m_1l g) G_1K (m_4 g) G_4 (MchC_Machine w.params) (MemC_Memory w.params) (InsC_Instruction w.params)
  have G_1V := ok_1R (P := rw8.prog) (w := w) (K := kK w.params) (mg := mg) (base := base) (C_2 := 1123) (C_1 := 1046) (C_0 := 285) (D_1R w.params) (m_8 g) (m_4 g) G_4 (c_0 w.params) G_e (MchC_Machine w.params) (MemC_Memory w.params) (InsC_Instruction w.params)
  have G_1W := ok_1S (P := rw8.prog) (w := w) (K := kK w.params) (mg := mg) (base := base) (C_2 := 1123) (C_1 := 1046) (C_0 := 285) (D_1S w.params) (m_8 g) (c_0 w.params) G_e (m_v g) G_t (MchC_Machine w.params) (MemC_Memory w.params) (InsC_Instruction w.params)
  have G_1X := ok_1T (P := rw8.prog) (w := w) (K := kK w.params) (mg := mg) (base := base) (C_2 := 1123) (C_1 := 1046) (C_0 := 285) (D_1T w.params) (m_8 g) (MchC_Machine w.params) (MemC_Memory w.params) (InsC_Instruction w.params)
  have G_B := ok_1U (P := rw8.prog) (w := w) (K := kK w.params) (mg := mg) (base := base) (C_2 := 1123) (C_1 := 1046) (C_0 := 285) (D_1U w.params) (m_1m g) k_f (InsC_Instruction w.params)
  have G_u := ok_1V (P := rw8.prog) (w := w) (K := kK w.params) (mg := mg) (base := base) (D_1V w.params)
  have G_1P := ok_1W (P := rw8.prog) (w := w) (K := kK w.params) (mg := mg) (base := base) (C_1 := 1046) (C_2 := 1123) (C_0 := 285) (D_1W w.params) (c_2 w.params) G_C G_g (m_w g) G_u (MchC_Machine w.params) (MemC_Memory w.params)
  have G_1N := ok_1X (P := rw8.prog) (w := w) (K := kK w.params) (mg := mg) (base := base) (C_0 := 285) (D_1X w.params) (m_1n g) G_1L (m_w g) G_u (m_1o g) G_1M
  have G_1O := ok_1Y (P := rw8.prog) (w := w) (K := kK w.params) (mg := mg) (base := base) (C_0 := 285) (C_2 := 1123) (C_1 := 1046) (D_1Y w.params) (m_1p g) G_1N (n_0 g) (m_1q g) (MchC_Machine w.params)
  have G_20 := ok_1Z (P := rw8.prog) (w := w) (K := kK w.params) (mg := mg) (base := base) (C_2 := 1123) (C_1 := 1046) (C_0 := 285) (D_1Z w.params) (m_1r g) (m_4 g) G_4 (m_w g) G_u (m_1s g) G_1O (m_u g) (m_1t g) G_1P k_3 G_B G_1Q G_D G_1R G_1S G_1T G_1U G_1V G_1W G_1X (MchC_Machine w.params) (InsC_Instruction w.params)
  have G_1Y := okM_of (ok_20 (P := rw8.prog) (w := w) (K := kK w.params) (mg := mg) (base := base) (C_2 := 1123) (C_1 := 1046) (C_0 := 285) (D_20 w.params) (m_h g) (m_g g) (MchC_Machine w.params)) (Meth_7 w.params)
  have G_24 := okM_of (ok_21 (P := rw8.prog) (w := w) (K := kK w.params) (mg := mg) (base := base) (C_2 := 1123) (C_1 := 1046) (C_0 := 285) (D_21 w.params) (m_h g) (c_0 w.params) G_e (m_x g) (m_g g) (m_I g) G_1Y (MchC_Machine w.params)) (Meth_8 w.params)
  have G_25 := okM_of (ok_22 (P := rw8.prog) (w := w) (K := kK w.params) (mg := mg) (base := base) (C_2 := 1123) (C_1 := 1046) (C_0 := 285) (D_22 w.params) (m_h g) (m_x g) (m_g g) (m_I g) (MchC_Machine w.params)) (Meth_9 w.params)
  have G_27 := okM_of (ok_23 (P := rw8.prog) (w := w) (K := kK w.params) (mg := mg) (base := base) (C_2 := 1123) (C_1 := 1046) (C_0 := 285) (D_23 w.params) (MchC_Machine w.params)) (Meth_a w.params)
  have G_21 := okM_of (ok_24 (P := rw8.prog) (w := w) (K := kK w.params) (mg := mg) (base := base) (C_1 := 1046) (C_2 := 1123) (C_0 := 285) (D_24 w.params) (m_h g) (c_2 w.params) G_z G_g (n_0 g) (m_g g) (MchC_Machine w.params) (MemC_Memory w.params)) (Meth_b w.params)
  have G_23 := okM_of (ok_25 (P := rw8.prog) (w := w) (K := kK w.params) (mg := mg) (base := base) (C_1 := 1046) (C_2 := 1123) (C_0 := 285) (D_25 w.params) (m_h g) (c_2 w.params) G_1Z G_g (m_g g) (MchC_Machine w.params) (MemC_Memory w.params)) (Meth_c w.params)
  have G_26 := okM_of (ok_26 (P := rw8.prog) (w := w) (K := kK w.params) (mg := mg) (base := base) (C_2 := 1123) (C_1 := 1046) (C_0 := 285) (D_26 w.params) (m_8 g) (m_1u g) G_20 (m_1v g) (m_g g) (MchC_Machine w.params)) (Meth_d w.params)
  have G_2g := okC_of (ok_27 (P := rw8.prog) (w := w) (K := kK w.params) (mg := mg) (base := base) (C_3 := 1165) (D_27 w.params) (RdC_Reader w.params)) (Mk_2 w.params)
  have G_2e := okM_of (ok_28 (P := rw8.prog) (w := w) (K := kK w.params) (mg := mg) (base := base) (C_3 := 1165) (D_28 w.params) (n_0 g) (RdC_Reader w.params)) (Meth_e w.params)
  have G_d := okM_of (ok_29 (P := rw8.prog) (w := w) (K := kK w.params) (mg := mg) (base := base) (C_3 := 1165) (D_29 w.params) (RdC_Reader w.params)) (Meth_f w.params)
  have G_22 := okM_of (ok_2a (P := rw8.prog) (w := w) (K := kK w.params) (mg := mg) (base := base) (C_3 := 1165) (D_2a w.params) (n_0 g) (c_1 w.params) G_d) (Meth_g w.params)
  have G_2c := ok_2b (P := rw8.prog) (w := w) (K := kK w.params) (mg := mg) (base := base) (C_2 := 1123) (C_1 := 1046) (C_0 := 285) (C_3 := 1165) (D_2b w.params) (c_0 w.params) G_21 (c_1 w.params) G_22 G_d
  have G_2b := ok_2c (P := rw8.prog) (w := w) (K := kK w.params) (mg := mg) (base := base) (C_2 := 1123) (C_1 := 1046) (C_0 := 285) (C_3 := 1165) (D_2c w.params) (c_0 w.params) G_23 (c_1 w.params) G_d
  have G_2a := ok_2d (P := rw8.prog) (w := w) (K := kK w.params) (mg := mg) (base := base) (C_2 := 1123) (C_1 := 1046) (C_0 := 285) (C_3 := 1165) (D_2d w.params) (c_0 w.params) G_24 (c_1 w.params) G_d
  have G_29 := ok_2e (P := rw8.prog) (w := w) (K := kK w.params) (mg := mg) (base := base) (C_2 := 1123) (C_1 := 1046) (C_0 := 285) (C_3 := 1165) (D_2e w.params) (c_0 w.params) G_25 (c_1 w.params) G_d
  have G_28 := ok_2f (P := rw8.prog) (w := w) (K := kK w.params) (mg := mg) (base := base) (C_2 := 1123) (C_1 := 1046) (C_0 := 285) (C_3 := 1165) (D_2f w.params) (c_0 w.params) G_26 (c_1 w.params) G_d
  have G_2f := ok_2g (P := rw8.prog) (w := w) (K := kK w.params) (mg := mg) (base := base) (C_2 := 1123) (C_1 := 1046) (C_0 := 285) (C_3 := 1165) (D_2g w.params) (m_1w g) (c_0 w.params) G_27 (m_1x g) (m_1y g) G_28 (m_1z g) (m_1A g) G_29 (m_1B g) (m_1C g) G_2a (m_1D g) (m_1E g) G_2b (m_1F g) (m_1G g) G_2c (c_1 w.params) G_d
  have G_2h := okC_of (ok_2h (P := rw8.prog) (w := w) (K := kK w.params) (mg := mg) (base := base) (C_1 := 1046) (C_2 := 1123) (C_0 := 285) (D_2h w.params) (m_8 g) (m_x g) (m_1H g) G_2d (MchC_Machine w.params)) (Mk_3 w.params)
  have G_2i := ok_2i (P := rw8.prog) (w := w) (K := kK w.params) (mg := mg) (base := base) (C_3 := 1165) (C_2 := 1123) (C_1 := 1046) (C_0 := 285) (D_2i w.params) (c_1 w.params) G_2e (n_0 g) (m_1I g) G_2f (m_1J g) G_2g (m_1K g) G_2h (InsC_Instruction w.params)
  exact G_2i
end Sp8
end
section
namespace Sp8
open PySem PySem.Spec PyProof.Rows PySem.W
noncomputable abbrev hook8 : Hook := kHook kK kAs kAs_eq
theorem pr_eq {α β : Type} {a a' : α} {b b' : β} (h : a = a') (k : b = b') : (a, b) = (a', b') := by rw [h, k]
theorem looks8 (w : World) : (fun os => ((staticsOk (importedModules pw.main.body) (boot_heap w.params) (H1 w.params) && namesBound pw (H1 w.params) && gensDone ⟨H1 w.params, Array.mk [], {}, 2282, os⟩ && laidKept (boot_heap w.params) (H1 w.params)),
        openSeen qv lo (importedModules pw.main.body) Xt0 true ⟨H1 w.params, Array.mk [], {}, 2282, os⟩, hook8.obs ⟨H1 w.params, Array.mk [], {}, 2282, os⟩)) = fun _ => (true, openGood qv lo, hook8.val w) :=
  funext fun os => by
    have h5 := lk_5 w os
    rw [Bool.and_eq_true, Bool.and_eq_true] at h5
    refine pr_eq (band (band (band (lk_a w os) (lk_b w os)) (lk_c w os)) (lk_d w os)) (pr_eq ?_ (lk_K w os))
    exact pr_eq (lk_1 w os) (pr_eq (lk_2 w os) (pr_eq (band (band (band (band (band (band (lk_3 w os) (lk_4 w os)) h5.1.1) h5.1.2) h5.2) (lk_6 w os)) rfl)
      (pr_eq (lk_7 w os) (pr_eq (lk_8 w os) (pr_eq (lk_9 w os) (pr_eq (lk_10 w os) (pr_eq (lk_11 w os) (lk_12 w os))))))))
theorem left8 : LeftO pw qv lo Xt0 hook8.obs hook8.val 40000 := LeftO.of_pieces h_open h_size h_run (by decide) looks8
theorem holds8 (call : WalkOS qv lo (XL qv []) hook8.says rw8 dAns [] (fun f vs => PySem.call f vs)) : rw8.Holds :=
  holds_os (q := qv) (loose := lo) (Xt := Xt0) (XP := XL qv []) (Yf := hook8.obs) (Ya := hook8.val) (YP := hook8.says) (N := 40000) left8 hook8.of hook8.keeps (fun s e => xl_of s (Bool.and_eq_true_iff.mp e).1) XL.keeps l_def l_thedef l_kw
    (fun s e => recFacts_of (Bool.and_eq_true_iff.mp e).2) os_shapes well8 (band l_chains e_5) e_6 ⟨[.list []], by decide +kernel, by decide +kernel⟩ call
theorem room8 : L2.Room 14 callerA := ⟨rfl, by decide, by decide⟩
theorem m_answers {w : World} {mg : Str → Option Value} (g : Gm w mg) : mg "answers" = some (.ref 1231) := g.at (by kernel_rfl)
theorem fin8 : rw8.Holds :=
  holds8 (walk_os room8 (fun w h Y => kIn_of (w := w) Y) fun w mg fa h hK hN hm base bK bN => by
    have g : Gm w mg := ⟨⟨h, hK, hN⟩⟩
    rw [l_name, m_answers g] at hm
    cases hm
    exact chain g)
end Sp8
end
theorem PySem.Challenge.cw_smallcore_s01_answers_holds : PySem.Challenge.rw_smallcore_s01_answers.Holds :=
  Sp8.fin8
