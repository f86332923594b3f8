import PyProof.Rows.All
import Wide.All
import OpenK.AllK
import PySem.Challenge.RW_roverhome_s01_answers
import Wide.FinOn
import KE.OsHead
import KE.OsGo
import PySr38
import PySem.SetOps
import PyProof.SetKind
import PyProof.DictKinds
import PyProof.FactsAll.set
import PyProof.CollectWalk
import PyProof.DictWalks
import PyProof.Rows.SortShell
import PyProof.Rows.SortWalk
import PyProof.Rows.SetFrom
import PyProof.EqAt
import PyProof.EqKinds
import PyProof.TupleCall
import KE.BitLaws
import Open.SpecLaws
section
set_option Elab.async false
set_option linter.all false
set_option maxRecDepth 100000
namespace L2
open PySem
def inClass (s : Stmt) (j : Nat) : Stmt := match s with
  | .ClassDef _ _ _ body _ _ _ _ _ _ _ => body.getD j (.Pass ⟨0, 0, 0, 0⟩)
  | _ => .Pass ⟨0, 0, 0, 0⟩
def defArgs (s : Stmt) : Arguments := match s with
  | .FunctionDef _ a _ _ _ _ _ _ _ _ => a
  | _ => { posonlyargs := [], args := [], vararg := none, kwonlyargs := [], kw_defaults := [], kwarg := none, defaults := [] }
def defBody (s : Stmt) : List Stmt := match s with
  | .FunctionDef _ _ b _ _ _ _ _ _ _ => b
  | _ => []
def defScope (s : Stmt) : Scope := match s with
  | .FunctionDef _ _ _ _ _ _ sc _ _ _ => sc
  | _ => { kind := .function, names := [], isGenerator := false, isCoroutine := false }
end L2
namespace Rv
open PySem
/-! ### the text by places -/
def top (i : Nat) : Stmt := PySem.Challenge.pw_roverhome_s01_answers.main.body.getD i (.Pass ⟨0, 0, 0, 0⟩)
end Rv
end
section
set_option Elab.async false
set_option linter.all false
set_option maxRecDepth 100000
set_option maxHeartbeats 4000000
namespace Rv
open PySem L2
/-! ### what the top leaves: the objects that are asked for -/
def kE (P : Params) (x : Str) (t : Nat) (v : Value) : DictEntry := ⟨PyData.keyHash P x, .str x t, v⟩
def kC (n q : Str) (t l a : Nat) (a1 a2 a3 a4 a5 : Value) (u x : Nat) : Obj := ⟨.type "code", none, .fields #[.str n t, .str q (t + 1), .str "/claim/cut.py" (t + 2), .int l 0, .int a 0, .int 0 0, .int 0 0, .int 3 0, a1, .bool true, .int 181 0, a2, .none, a3, a4, a5, .int u 0, .int l 0, .str "/claim/cut.py" x], #[]⟩
def kF (n q : Str) (st : Stmt) (m : Str) (t c : Nat) : Obj := ⟨.type "function", none, .func (PySem.W.fnOf n q (defArgs st) (defBody st) (defScope st) .none .none .none (.str m t) none (.ref c) .none), #[]⟩
def K0 (P : Params) : PySem.W.Frag :=
  (nat_lit 3, ⟨.type "dict", none, .dict (kE P "__name__" 165 (.str "roverhome.ground" 649) :: kE P "__doc__" 166 (.none) :: kE P "__package__" 167 (.none) :: kE P "__loader__" 168 (.builtin "__main__.__loader__#opaque") :: kE P "__spec__" 169 (.none) :: kE P "__annotations__" 170 (.ref 6) :: kE P "__builtins__" 171 (.ref 4) :: kE P "__file__" 173 (.str "/claim/cut.py" 172) :: kE P "__cached__" 174 (.none) :: kE P "CLOSED" 190 (.int (255) 189) :: kE P "HIGHEST_COST" 192 (.int (200) 191) :: kE P "LONGEST_SIDE" 194 (.int (16) 193) :: kE P "MOST_CELLS" 196 (.int (256) 195) :: kE P "SHARE" 198 (.int (1024) 197) :: kE P "sides_fit" 206 (.ref 21) :: kE P "is_cost" 213 (.ref 28) :: kE P "neighbours" 224 (.ref 35) :: kE P "all_neighbours" 230 (.ref 40) :: kE P "weight" 238 (.ref 47) :: kE P "lightest" 253 (.ref 54) :: kE P "taken" 261 (.ref 61) :: kE P "second_cell" 267 (.ref 66) :: kE P "KEEP_OUT" 271 (.int (1) 270) :: kE P "HAD" 273 (.int (2) 272) :: kE P "SEEN" 275 (.int (3) 274) :: kE P "ANSWER" 277 (.int (4) 276) :: kE P "LENGTH" 279 (.int (8) 278) :: kE P "MOST_NUMBER" 281 (.int (65535) 280) :: kE P "NO" 283 (.int (0) 282) :: kE P "YES" 285 (.int (1) 284) :: kE P "SENT" 287 (.int (3) 286) :: kE P "TICKS_APART" 289 (.int (5) 288) :: kE P "message" 299 (.ref 73) :: kE P "send" 309 (.ref 80) :: kE P "number_of" 316 (.ref 87) :: kE P "is_framed" 324 (.ref 94) :: kE P "is_keep_out" 332 (.ref 101) :: kE P "is_had" 339 (.ref 108) :: kE P "is_seen" 347 (.ref 115) :: kE P "is_answer" 354 (.ref 122) :: kE P "BAD_VALUE" 357 (.int (-22) 356) :: kE P "BAD_MESSAGE" 360 (.int (-71) 359) :: kE P "NOT_ANSWERED" 363 (.int (-16) 362) :: kE P "NO_NUMBER_LEFT" 366 (.int (-28) 365) :: kE P "People" 475 (.ref 202) :: kE P "LOOKED" 479 (.int (1) 478) :: kE P "TO_GOAL" 481 (.int (2) 480) :: kE P "TO_HOME" 483 (.int (3) 482) :: kE P "FILLED" 485 (.int (4) 484) :: kE P "NOTHING" 487 (.int (0) 486) :: kE P "SAW" 489 (.int (0) 488) :: kE P "WENT" 491 (.int (1) 490) :: kE P "CHARGED" 493 (.int (2) 492) :: kE P "Rover" 648 (.ref 308) :: kE P "RV_START" 652 (.int (0) 651) :: kE P "RV_STEP" 654 (.int (1) 653) :: kE P "RV_HEARD" 656 (.int (2) 655) :: kE P "RV_TICK" 658 (.int (3) 657) :: kE P "RV_STATE" 660 (.int (4) 659) :: kE P "BS_START" 662 (.int (5) 661) :: kE P "BS_AVOID" 664 (.int (6) 663) :: kE P "BS_HEARD" 666 (.int (7) 665) :: kE P "BS_TICK" 668 (.int (8) 667) :: kE P "BS_MAP" 670 (.int (9) 669) :: kE P "BS_STATE" 672 (.int (10) 671) :: kE P "PLAIN_LENGTHS" 684 (.ref 313) :: kE P "MOST_ROOM" 686 (.int (65535) 685) :: kE P "Line" 765 (.ref 365) :: kE P "has_row" 772 (.ref 376) :: kE P "answers" 786 (.ref 383) :: []).toArray 70, #[]⟩) ::
  (nat_lit 20, kC "sides_fit" "sides_fit" 199 7 2 (.ref 15) (.ref 16) (.ref 17) (.ref 18) (.ref 19) 204 205) ::
  (nat_lit 21, kF "sides_fit" "sides_fit" (top 6) "roverhome.ways" 187 20) ::
  (nat_lit 27, kC "is_cost" "is_cost" 207 9 1 (.ref 22) (.ref 23) (.ref 24) (.ref 25) (.ref 26) 211 212) ::
  (nat_lit 28, kF "is_cost" "is_cost" (top 7) "roverhome.ways" 187 27) ::
  (nat_lit 34, kC "neighbours" "neighbours" 214 11 3 (.ref 29) (.ref 30) (.ref 31) (.ref 32) (.ref 33) 222 223) ::
  (nat_lit 35, kF "neighbours" "neighbours" (top 8) "roverhome.ways" 187 34) ::
  (nat_lit 39, kC "all_neighbours" "all_neighbours" 225 23 2 (.ref 36) (.ref 37) (.none) (.none) (.ref 38) 228 229) ::
  (nat_lit 40, kF "all_neighbours" "all_neighbours" (top 9) "roverhome.ways" 187 39) ::
  (nat_lit 46, kC "weight" "weight" 231 25 2 (.ref 41) (.ref 42) (.ref 43) (.ref 44) (.ref 45) 236 237) ::
  (nat_lit 47, kF "weight" "weight" (top 10) "roverhome.ways" 187 46) ::
  (nat_lit 53, kC "lightest" "lightest" 239 29 3 (.ref 48) (.ref 49) (.ref 50) (.ref 51) (.ref 52) 251 252) ::
  (nat_lit 54, kF "lightest" "lightest" (top 11) "roverhome.ways" 187 53) ::
  (nat_lit 60, kC "taken" "taken" 254 44 2 (.ref 55) (.ref 56) (.ref 57) (.ref 58) (.ref 59) 259 260) ::
  (nat_lit 61, kF "taken" "taken" (top 12) "roverhome.ways" 187 60) ::
  (nat_lit 65, kC "second_cell" "second_cell" 262 46 4 (.ref 62) (.ref 63) (.none) (.none) (.ref 64) 265 266) ::
  (nat_lit 66, kF "second_cell" "second_cell" (top 13) "roverhome.ways" 187 65) ::
  (nat_lit 72, kC "message" "message" 290 60 4 (.ref 67) (.ref 68) (.ref 69) (.ref 70) (.ref 71) 297 298) ::
  (nat_lit 73, kF "message" "message" (top 25) "roverhome.messages" 268 72) ::
  (nat_lit 79, kC "send" "send" 300 62 4 (.ref 74) (.ref 75) (.ref 76) (.ref 77) (.ref 78) 307 308) ::
  (nat_lit 80, kF "send" "send" (top 26) "roverhome.messages" 268 79) ::
  (nat_lit 86, kC "number_of" "number_of" 310 64 1 (.ref 81) (.ref 82) (.ref 83) (.ref 84) (.ref 85) 314 315) ::
  (nat_lit 87, kF "number_of" "number_of" (top 27) "roverhome.messages" 268 86) ::
  (nat_lit 93, kC "is_framed" "is_framed" 317 66 2 (.ref 88) (.ref 89) (.ref 90) (.ref 91) (.ref 92) 322 323) ::
  (nat_lit 94, kF "is_framed" "is_framed" (top 28) "roverhome.messages" 268 93) ::
  (nat_lit 100, kC "is_keep_out" "is_keep_out" 325 70 2 (.ref 95) (.ref 96) (.ref 97) (.ref 98) (.ref 99) 330 331) ::
  (nat_lit 101, kF "is_keep_out" "is_keep_out" (top 29) "roverhome.messages" 268 100) ::
  (nat_lit 107, kC "is_had" "is_had" 333 72 1 (.ref 102) (.ref 103) (.ref 104) (.ref 105) (.ref 106) 337 338) ::
  (nat_lit 108, kF "is_had" "is_had" (top 30) "roverhome.messages" 268 107) ::
  (nat_lit 114, kC "is_seen" "is_seen" 340 74 2 (.ref 109) (.ref 110) (.ref 111) (.ref 112) (.ref 113) 345 346) ::
  (nat_lit 115, kF "is_seen" "is_seen" (top 31) "roverhome.messages" 268 114) ::
  (nat_lit 121, kC "is_answer" "is_answer" 348 76 1 (.ref 116) (.ref 117) (.ref 118) (.ref 119) (.ref 120) 352 353) ::
  (nat_lit 122, kF "is_answer" "is_answer" (top 32) "roverhome.messages" 268 121) ::
  (nat_lit 135, kC "__init__" "People.__init__" 381 85 3 (.ref 130) (.ref 131) (.ref 132) (.ref 133) (.ref 134) 387 388) ::
  (nat_lit 136, kF "__init__" "People.__init__" (inClass (top 38) 0) "roverhome.people" 367 135) ::
  (nat_lit 142, kC "waits" "People.waits" 390 94 1 (.ref 137) (.ref 138) (.ref 139) (.ref 140) (.ref 141) 394 395) ::
  (nat_lit 143, kF "waits" "People.waits" (inClass (top 38) 1) "roverhome.people" 367 142) ::
  (nat_lit 149, kC "avoid" "People.avoid" 397 97 2 (.ref 144) (.ref 145) (.ref 146) (.ref 147) (.ref 148) 402 403) ::
  (nat_lit 150, kF "avoid" "People.avoid" (inClass (top 38) 2) "roverhome.people" 367 149) ::
  (nat_lit 156, kC "send_keep_out" "People.send_keep_out" 405 109 1 (.ref 151) (.ref 152) (.ref 153) (.ref 154) (.ref 155) 409 410) ::
  (nat_lit 157, kF "send_keep_out" "People.send_keep_out" (inClass (top 38) 3) "roverhome.people" 367 156) ::
  (nat_lit 163, kC "hear" "People.hear" 412 112 2 (.ref 158) (.ref 159) (.ref 160) (.ref 161) (.ref 162) 417 418) ::
  (nat_lit 164, kF "hear" "People.hear" (inClass (top 38) 4) "roverhome.people" 367 163) ::
  (nat_lit 170, kC "hear_seen" "People.hear_seen" 420 120 4 (.ref 165) (.ref 166) (.ref 167) (.ref 168) (.ref 169) 427 428) ::
  (nat_lit 171, kF "hear_seen" "People.hear_seen" (inClass (top 38) 5) "roverhome.people" 367 170) ::
  (nat_lit 177, kC "hear_answer" "People.hear_answer" 430 128 3 (.ref 172) (.ref 173) (.ref 174) (.ref 175) (.ref 176) 436 437) ::
  (nat_lit 178, kF "hear_answer" "People.hear_answer" (inClass (top 38) 6) "roverhome.people" 367 177) ::
  (nat_lit 184, kC "tick" "People.tick" 439 132 1 (.ref 179) (.ref 180) (.ref 181) (.ref 182) (.ref 183) 443 444) ::
  (nat_lit 185, kF "tick" "People.tick" (inClass (top 38) 7) "roverhome.people" 367 184) ::
  (nat_lit 191, kC "whole_map" "People.whole_map" 446 138 1 (.ref 186) (.ref 187) (.ref 188) (.ref 189) (.ref 190) 450 451) ::
  (nat_lit 192, kF "whole_map" "People.whole_map" (inClass (top 38) 8) "roverhome.people" 367 191) ::
  (nat_lit 198, kC "state" "People.state" 453 141 1 (.ref 193) (.ref 194) (.ref 195) (.ref 196) (.ref 197) 458 459) ::
  (nat_lit 199, kF "state" "People.state" (inClass (top 38) 9) "roverhome.people" 367 198) ::
  (nat_lit 201, ⟨.type "dict", none, .dict (kE P "__module__" 376 (.str "roverhome.people" 367) :: kE P "__firstlineno__" 380 (.int (83) 379) :: kE P "__init__" 389 (.ref 136) :: kE P "waits" 396 (.ref 143) :: kE P "avoid" 404 (.ref 150) :: kE P "send_keep_out" 411 (.ref 157) :: kE P "hear" 419 (.ref 164) :: kE P "hear_seen" 429 (.ref 171) :: kE P "hear_answer" 438 (.ref 178) :: kE P "tick" 445 (.ref 185) :: kE P "whole_map" 452 (.ref 192) :: kE P "state" 460 (.ref 199) :: kE P "__static_attributes__" 468 (.ref 200) :: kE P "__dict__" 470 (.ref 203) :: kE P "__weakref__" 472 (.ref 204) :: kE P "__doc__" 473 (.none) :: []).toArray 4, #[]⟩) ::
  (nat_lit 202, ⟨.type "type", none, .cls { name := "People", bases := [.type "object"], mro := [.ref 202, .type "object"], ns := 201, qualname := "People" }, #[none, none, some (.str "People" 369), some (.str "People" 377), some (.builtin "object.__new__"), some (.bool true)]⟩) ::
  (nat_lit 217, kC "__init__" "Rover.__init__" 506 157 6 (.ref 214) (.ref 215) (.none) (.none) (.ref 216) 509 510) ::
  (nat_lit 218, kF "__init__" "Rover.__init__" (inClass (top 48) 0) "roverhome.rover" 476 217) ::
  (nat_lit 224, kC "step" "Rover.step" 512 174 1 (.ref 219) (.ref 220) (.ref 221) (.ref 222) (.ref 223) 521 522) ::
  (nat_lit 225, kF "step" "Rover.step" (inClass (top 48) 1) "roverhome.rover" 476 224) ::
  (nat_lit 229, kC "unknown_in_sight" "Rover.unknown_in_sight" 524 191 1 (.ref 226) (.ref 227) (.none) (.none) (.ref 228) 527 528) ::
  (nat_lit 230, kF "unknown_in_sight" "Rover.unknown_in_sight" (inClass (top 48) 2) "roverhome.rover" 476 229) ::
  (nat_lit 236, kC "look" "Rover.look" 530 195 2 (.ref 231) (.ref 232) (.ref 233) (.ref 234) (.ref 235) 537 538) ::
  (nat_lit 237, kF "look" "Rover.look" (inClass (top 48) 3) "roverhome.rover" 476 236) ::
  (nat_lit 241, kC "weigh" "Rover.weigh" 540 205 1 (.ref 238) (.ref 239) (.none) (.none) (.ref 240) 543 544) ::
  (nat_lit 242, kF "weigh" "Rover.weigh" (inClass (top 48) 4) "roverhome.rover" 476 241) ::
  (nat_lit 248, kC "choose_goal" "Rover.choose_goal" 546 208 3 (.ref 243) (.ref 244) (.ref 245) (.ref 246) (.ref 247) 558 559) ::
  (nat_lit 249, kF "choose_goal" "Rover.choose_goal" (inClass (top 48) 5) "roverhome.rover" 476 248) ::
  (nat_lit 255, kC "go" "Rover.go" 561 222 2 (.ref 250) (.ref 251) (.ref 252) (.ref 253) (.ref 254) 566 567) ::
  (nat_lit 256, kF "go" "Rover.go" (inClass (top 48) 6) "roverhome.rover" 476 255) ::
  (nat_lit 262, kC "send_seen" "Rover.send_seen" 569 228 1 (.ref 257) (.ref 258) (.ref 259) (.ref 260) (.ref 261) 574 575) ::
  (nat_lit 263, kF "send_seen" "Rover.send_seen" (inClass (top 48) 7) "roverhome.rover" 476 262) ::
  (nat_lit 269, kC "hear" "Rover.hear" 577 234 2 (.ref 264) (.ref 265) (.ref 266) (.ref 267) (.ref 268) 582 583) ::
  (nat_lit 270, kF "hear" "Rover.hear" (inClass (top 48) 8) "roverhome.rover" 476 269) ::
  (nat_lit 276, kC "hear_keep_out" "Rover.hear_keep_out" 585 241 3 (.ref 271) (.ref 272) (.ref 273) (.ref 274) (.ref 275) 591 592) ::
  (nat_lit 277, kF "hear_keep_out" "Rover.hear_keep_out" (inClass (top 48) 9) "roverhome.rover" 476 276) ::
  (nat_lit 283, kC "can_keep_out" "Rover.can_keep_out" 594 252 2 (.ref 278) (.ref 279) (.ref 280) (.ref 281) (.ref 282) 601 602) ::
  (nat_lit 284, kF "can_keep_out" "Rover.can_keep_out" (inClass (top 48) 10) "roverhome.rover" 476 283) ::
  (nat_lit 290, kC "hear_had" "Rover.hear_had" 604 262 2 (.ref 285) (.ref 286) (.ref 287) (.ref 288) (.ref 289) 609 610) ::
  (nat_lit 291, kF "hear_had" "Rover.hear_had" (inClass (top 48) 11) "roverhome.rover" 476 290) ::
  (nat_lit 297, kC "tick" "Rover.tick" 612 268 1 (.ref 292) (.ref 293) (.ref 294) (.ref 295) (.ref 296) 616 617) ::
  (nat_lit 298, kF "tick" "Rover.tick" (inClass (top 48) 12) "roverhome.rover" 476 297) ::
  (nat_lit 304, kC "state" "Rover.state" 619 274 1 (.ref 299) (.ref 300) (.ref 301) (.ref 302) (.ref 303) 623 624) ::
  (nat_lit 305, kF "state" "Rover.state" (inClass (top 48) 13) "roverhome.rover" 476 304) ::
  (nat_lit 307, ⟨.type "dict", none, .dict (kE P "__module__" 501 (.str "roverhome.rover" 476) :: kE P "__firstlineno__" 505 (.int (155) 504) :: kE P "__init__" 511 (.ref 218) :: kE P "step" 523 (.ref 225) :: kE P "unknown_in_sight" 529 (.ref 230) :: kE P "look" 539 (.ref 237) :: kE P "weigh" 545 (.ref 242) :: kE P "choose_goal" 560 (.ref 249) :: kE P "go" 568 (.ref 256) :: kE P "send_seen" 576 (.ref 263) :: kE P "hear" 584 (.ref 270) :: kE P "hear_keep_out" 593 (.ref 277) :: kE P "can_keep_out" 603 (.ref 284) :: kE P "hear_had" 611 (.ref 291) :: kE P "tick" 618 (.ref 298) :: kE P "state" 625 (.ref 305) :: kE P "__static_attributes__" 641 (.ref 306) :: kE P "__dict__" 643 (.ref 309) :: kE P "__weakref__" 645 (.ref 310) :: kE P "__doc__" 646 (.none) :: []).toArray 4, #[]⟩) ::
  (nat_lit 308, ⟨.type "type", none, .cls { name := "Rover", bases := [.type "object"], mro := [.ref 308, .type "object"], ns := 307, qualname := "Rover" }, #[none, none, some (.str "Rover" 494), some (.str "Rover" 502), some (.builtin "object.__new__"), some (.bool true)]⟩) ::
  (nat_lit 313, ⟨.type "tuple", none, .seq #[.int (5) 673, .int (1) 674, .int (1) 675, .int (1) 676, .int (1) 677, .int (3) 678, .int (2) 679, .int (1) 680, .int (1) 681, .int (1) 682, .int (1) 683] 0, #[]⟩) ::
  (nat_lit 326, kC "__init__" "Line.__init__" 699 292 1 (.ref 321) (.ref 322) (.ref 323) (.ref 324) (.ref 325) 703 704) ::
  (nat_lit 327, kF "__init__" "Line.__init__" (inClass (top 63) 0) "roverhome.ground" 649 326) ::
  (nat_lit 333, kC "start_rover" "Line.start_rover" 706 296 6 (.ref 328) (.ref 329) (.ref 330) (.ref 331) (.ref 332) 715 716) ::
  (nat_lit 334, kF "start_rover" "Line.start_rover" (inClass (top 63) 1) "roverhome.ground" 649 333) ::
  (nat_lit 340, kC "start_people" "Line.start_people" 718 304 3 (.ref 335) (.ref 336) (.ref 337) (.ref 338) (.ref 339) 724 725) ::
  (nat_lit 341, kF "start_people" "Line.start_people" (inClass (top 63) 2) "roverhome.ground" 649 340) ::
  (nat_lit 347, kC "answer" "Line.answer" 727 310 3 (.ref 342) (.ref 343) (.ref 344) (.ref 345) (.ref 346) 733 734) ::
  (nat_lit 348, kF "answer" "Line.answer" (inClass (top 63) 3) "roverhome.ground" 649 347) ::
  (nat_lit 354, kC "answer_on_rover" "Line.answer_on_rover" 736 315 3 (.ref 349) (.ref 350) (.ref 351) (.ref 352) (.ref 353) 743 744) ::
  (nat_lit 355, kF "answer_on_rover" "Line.answer_on_rover" (inClass (top 63) 4) "roverhome.ground" 649 354) ::
  (nat_lit 361, kC "answer_on_people" "Line.answer_on_people" 746 327 3 (.ref 356) (.ref 357) (.ref 358) (.ref 359) (.ref 360) 753 754) ::
  (nat_lit 362, kF "answer_on_people" "Line.answer_on_people" (inClass (top 63) 5) "roverhome.ground" 649 361) ::
  (nat_lit 364, ⟨.type "dict", none, .dict (kE P "__module__" 694 (.str "roverhome.ground" 649) :: kE P "__firstlineno__" 698 (.int (290) 697) :: kE P "__init__" 705 (.ref 327) :: kE P "start_rover" 717 (.ref 334) :: kE P "start_people" 726 (.ref 341) :: kE P "answer" 735 (.ref 348) :: kE P "answer_on_rover" 745 (.ref 355) :: kE P "answer_on_people" 755 (.ref 362) :: kE P "__static_attributes__" 758 (.ref 363) :: kE P "__dict__" 760 (.ref 366) :: kE P "__weakref__" 762 (.ref 367) :: kE P "__doc__" 763 (.none) :: []).toArray 4, #[]⟩) ::
  (nat_lit 365, ⟨.type "type", none, .cls { name := "Line", bases := [.type "object"], mro := [.ref 365, .type "object"], ns := 364, qualname := "Line" }, #[none, none, some (.str "Line" 687), some (.str "Line" 695), some (.builtin "object.__new__"), some (.bool true)]⟩) ::
  (nat_lit 375, kC "has_row" "has_row" 766 340 1 (.ref 370) (.ref 371) (.ref 372) (.ref 373) (.ref 374) 770 771) ::
  (nat_lit 376, kF "has_row" "has_row" (top 64) "roverhome.ground" 649 375) ::
  (nat_lit 382, kC "answers" "answers" 773 342 1 (.ref 377) (.ref 378) (.ref 379) (.ref 380) (.ref 381) 784 785) ::
  (nat_lit 383, kF "answers" "answers" (top 65) "roverhome.ground" 649 382) :: []
def as0 : List Addr := [3, 20, 21, 27, 28, 34, 35, 39, 40, 46, 47, 53, 54, 60, 61, 65, 66, 72, 73, 79, 80, 86, 87, 93, 94, 100, 101, 107, 108, 114, 115, 121, 122, 135, 136, 142, 143, 149, 150, 156, 157, 163, 164, 170, 171, 177, 178, 184, 185, 191, 192, 198, 199, 201, 202, 217, 218, 224, 225, 229, 230, 236, 237, 241, 242, 248, 249, 255, 256, 262, 263, 269, 270, 276, 277, 283, 284, 290, 291, 297, 298, 304, 305, 307, 308, 313, 326, 327, 333, 334, 340, 341, 347, 348, 354, 355, 361, 362, 364, 365, 375, 376, 382, 383]
def view0 : Program := { PySem.Challenge.pw_roverhome_s01_answers with main := { PySem.Challenge.pw_roverhome_s01_answers.main with body := [top 1, top 2, top 3, top 4, top 5, top 6, top 7, top 8, top 9, top 10, top 11, top 12, top 13, top 15, top 16, top 17, top 18, top 19, top 20, top 21, top 22, top 23, top 24, top 25, top 26, top 27, top 28, top 29, top 30, top 31, top 32, top 33, top 34, top 35, top 36, top 38, top 40, top 41, top 42, top 43, top 44, top 45, top 46, top 47, top 48, top 50, top 51, top 52, top 53, top 54, top 55, top 56, top 57, top 58, top 59, top 60, top 61, top 62, top 63, top 64, top 65] } }
theorem as0_is (P : Params) : as0 = (K0 P).map (·.1) := by kernel_rfl
def hook0 : PySem.W.Hook := PySem.W.kHook K0 as0 as0_is
/-! ### the top's run, once for each of the two looks -/
section
open PySem.W PySem.Calls PyProof.Rows
noncomputable def bootS (w : World) (os : OsState) : Shared := ⟨boot_heap w.params, Array.mk [], boot_drawn, boot_toks, os⟩
theorem left_of {p q : Program} {Xt : Shared → Bool} {α : Type} {Yf : Shared → α} {Ya : World → α} {N : Nat} (e : opening p = plainProg p.main.scope.names) (hN : Nat.ble 600 N = true) (f : ∀ s, fenceModules? p s = some s)
    (h1 : ∀ w os, (topFrom treeTable p w N (bootS w os)).map (fun s => openSeen q [] (importedModules p.main.body) Xt true s) = some (openGood q [])) (h2 : ∀ w os, (topFrom treeTable p w N (bootS w os)).map Yf = some (Ya w)) : LeftO p q [] Xt Yf Ya N := by
  intro w
  obtain ⟨s, hs, hv⟩ := Option.map_eq_some_iff.mp (boot_open e hN f w)
  have es : s = bootS w s.os := by
    obtain ⟨a, b, c, d, o⟩ := s
    simp only [Prod.mk.injEq] at hv
    obtain ⟨rfl, rfl, rfl, rfl⟩ := hv
    rfl
  unfold openEnds
  rw [hs]
  show (topFrom treeTable p w N s).map _ = _
  rw [es]
  have a := h1 w s.os
  have b := h2 w s.os
  cases hx : topFrom treeTable p w N (bootS w s.os) with
  | none => rw [hx] at a; cases a
  | some t =>
    rw [hx] at a b
    have a' := Option.some.inj a
    have b' := Option.some.inj b
    dsimp only at a'
    show some (openSeen q [] (importedModules p.main.body) Xt true t, Yf t) = _
    rw [a', b']
theorem pair_of {α β γ : Type} {o : Option α} {f : α → β × γ} {g : β × γ} (h1 : o.map (fun s => (f s).1) = some g.1) (h2 : o.map (fun s => (f s).2) = some g.2) : o.map f = some g := by
  cases o with
  | none => cases h1
  | some s => exact congrArg some (Prod.ext (Option.some.inj h1) (Option.some.inj h2))
abbrev Xt0 : Shared → Bool := fun s => xlAt view0 [] s && recOk [] s
set_option maxHeartbeats 0 in
theorem left1a (w : World) (os : OsState) : (topFrom treeTable PySem.Challenge.pw_roverhome_s01_answers w 2700 (bootS w os)).map (fun s => (openSeen view0 [] (importedModules PySem.Challenge.pw_roverhome_s01_answers.main.body) Xt0 true s).1) = some (openGood view0 []).1 := by
  unfold topFrom
  rw [Fast.te14082659384304107361, Fast.te14364793385576792824, Fast.te8920871248978507458, Fast.te4187177175401517315, Fast.te5923862056798008813]
  kernel_rfl
set_option maxHeartbeats 0 in
theorem left1b (w : World) (os : OsState) : (topFrom treeTable PySem.Challenge.pw_roverhome_s01_answers w 2700 (bootS w os)).map (fun s => (openSeen view0 [] (importedModules PySem.Challenge.pw_roverhome_s01_answers.main.body) Xt0 true s).2.1) = some bltViewBooted := by
  unfold topFrom
  rw [Fast.te14082659384304107361, Fast.te14364793385576792824, Fast.te8920871248978507458, Fast.te4187177175401517315, Fast.te5923862056798008813]
  kernel_rfl
set_option maxHeartbeats 0 in
theorem left1c (w : World) (os : OsState) : (topFrom treeTable PySem.Challenge.pw_roverhome_s01_answers w 2700 (bootS w os)).map (fun s => (openSeen view0 [] (importedModules PySem.Challenge.pw_roverhome_s01_answers.main.body) Xt0 true s).2.2.1) = some true := by
  unfold topFrom
  rw [Fast.te14082659384304107361, Fast.te14364793385576792824, Fast.te8920871248978507458, Fast.te4187177175401517315, Fast.te5923862056798008813]
  kernel_rfl
set_option maxHeartbeats 0 in
theorem left1d (w : World) (os : OsState) : (topFrom treeTable PySem.Challenge.pw_roverhome_s01_answers w 2700 (bootS w os)).map (fun s => (openSeen view0 [] (importedModules PySem.Challenge.pw_roverhome_s01_answers.main.body) Xt0 true s).2.2.2) = some (true, pinGoodD (drecsOf view0), plainGoodE view0 (looseW view0 []), plainGoodD view0 [], wideGood view0, clsGoodW view0 []) := by
  unfold topFrom
  rw [Fast.te14082659384304107361, Fast.te14364793385576792824, Fast.te8920871248978507458, Fast.te4187177175401517315, Fast.te5923862056798008813]
  kernel_rfl
set_option maxHeartbeats 0 in
theorem left2 (w : World) (os : OsState) : (topFrom treeTable PySem.Challenge.pw_roverhome_s01_answers w 2700 (bootS w os)).map hook0.obs = some (hook0.val w) := by
  unfold topFrom
  rw [Fast.te14082659384304107361, Fast.te14364793385576792824, Fast.te8920871248978507458, Fast.te5923862056798008813]
  kernel_rfl
theorem left0 : LeftO PySem.Challenge.pw_roverhome_s01_answers view0 [] Xt0 hook0.obs hook0.val 2700 := left_of (by kernel_rfl) rfl (fun s => by kernel_rfl) (fun w os => pair_of (left1a w os) (pair_of (left1b w os) (pair_of (left1c w os) (left1d w os)))) left2
end
end Rv
end
section
set_option Elab.async false
/-! The mathematics of ways, apart from any program: a table that is told cell by cell from one cell on,
and that no neighbour betters, is the table of least ways; two such tables, by cost alone and by cost and cells. -/
namespace RvM

/-- a table of least sums from b on: both ends counted -/
structure Cert (n : Nat) (adj : Nat → Nat → Prop) (op : Nat → Prop) (wt : Nat → Nat) (b : Nat) (T : Nat → Option Nat) : Prop where
  bd : ∀ c t, T c = some t → c < n ∧ op c
  st : T b = some (wt b)
  fr : ∀ c t, T c = some t → (c = b ∧ t = wt b) ∨ ∃ d y, adj c d ∧ T d = some y ∧ t = y + wt c
  le : ∀ c d y, adj c d → op c → T d = some y → ∃ x, T c = some x ∧ x ≤ y + wt c

/-- a row of cells from c to b -/
inductive Chain (adj : Nat → Nat → Prop) (b : Nat) : Nat → List Nat → Prop
  | here : Chain adj b b [b]
  | on {c d : Nat} {l : List Nat} : adj c d → Chain adj b d l → Chain adj b c (c :: l)

def sumW (wt : Nat → Nat) (l : List Nat) : Nat := (l.map wt).sum
theorem sumW_cons (wt : Nat → Nat) (c : Nat) (l : List Nat) : sumW wt (c :: l) = wt c + sumW wt l := by simp [sumW]
theorem sumW_nil (wt : Nat → Nat) : sumW wt [] = 0 := rfl

section
variable {n : Nat} {adj : Nat → Nat → Prop} {op : Nat → Prop} {wt : Nat → Nat} {b : Nat} {T : Nat → Option Nat}

theorem Cert.chain (h : Cert n adj op wt b T) (pos : ∀ c, op c → 1 ≤ wt c) : ∀ (k c t : Nat), t ≤ k → T c = some t →
    ∃ l, Chain adj b c l ∧ sumW wt l = t ∧ l.Nodup ∧ ∀ x ∈ l, x < n ∧ op x ∧ ∃ u, T x = some u ∧ u ≤ t := by
  intro k
  induction k with
  | zero =>
    intro c t hk hc
    have hp := pos c (h.bd c t hc).2
    rcases h.fr c t hc with ⟨rfl, e⟩ | ⟨d, y, _, _, e⟩ <;> omega
  | succ k ih =>
    intro c t hk hc
    have hb := h.bd c t hc
    have hp := pos c hb.2
    rcases h.fr c t hc with ⟨rfl, e⟩ | ⟨d, y, had, hd, e⟩
    · refine ⟨[c], .here, ?_, by simp, ?_⟩
      · rw [sumW_cons, sumW_nil]; omega
      · intro x hx
        rw [List.mem_singleton] at hx
        subst hx
        exact ⟨hb.1, hb.2, t, hc, Nat.le_refl _⟩
    · obtain ⟨l, hl, hs, hn, ha⟩ := ih d y (by omega) hd
      refine ⟨c :: l, .on had hl, ?_, ?_, ?_⟩
      · rw [sumW_cons, hs]; omega
      · rw [List.nodup_cons]
        refine ⟨fun hm => ?_, hn⟩
        obtain ⟨_, _, u, hu, hle⟩ := ha c hm
        rw [hc] at hu
        have := Option.some.inj hu
        omega
      · intro x hx
        rw [List.mem_cons] at hx
        rcases hx with rfl | hx
        · exact ⟨hb.1, hb.2, t, hc, Nat.le_refl _⟩
        · obtain ⟨h1, h2, u, hu, hle⟩ := ha x hx
          exact ⟨h1, h2, u, hu, by omega⟩

theorem Cert.upper (h : Cert n adj op wt b T) : ∀ {c : Nat} {l : List Nat}, Chain adj b c l → (∀ x ∈ l, op x) → ∃ t, T c = some t ∧ t ≤ sumW wt l := by
  intro c l hl
  induction hl with
  | here =>
    intro _
    exact ⟨wt b, h.st, by rw [sumW_cons, sumW_nil]; omega⟩
  | @on c d l had hl ih =>
    intro ho
    obtain ⟨y, hy, hle⟩ := ih fun x hx => ho x (List.mem_cons_of_mem _ hx)
    obtain ⟨x, hx, hxle⟩ := h.le c d y had (ho c List.mem_cons_self) hy
    exact ⟨x, hx, by rw [sumW_cons]; omega⟩

end

/-- no more cells than there are, if none stands twice -/
theorem nodup_len : ∀ (n : Nat) (l : List Nat), l.Nodup → (∀ x ∈ l, x < n) → l.length ≤ n
  | 0, [], _, _ => Nat.le_refl _
  | 0, a :: l, _, h => absurd (h a List.mem_cons_self) (Nat.not_lt_zero _)
  | n + 1, l, hn, h => by
    have h1 : (l.erase n).length ≤ n := by
      refine nodup_len n (l.erase n) (hn.erase n) fun x hx => ?_
      have hxl : x ∈ l := List.mem_of_mem_erase hx
      have hne : x ≠ n := fun e => by
        subst e
        exact (List.Nodup.not_mem_erase hn) hx
      have := h x hxl
      omega
    rw [List.length_erase] at h1
    split at h1 <;> omega

def heavy (cost : Nat → Nat) (c : Nat) : Nat := 1024 * cost c + 1
theorem sum_heavy (cost : Nat → Nat) : ∀ l : List Nat, sumW (heavy cost) l = 1024 * sumW cost l + l.length
  | [] => rfl
  | c :: l => by rw [sumW_cons, sumW_cons, sum_heavy cost l, List.length_cons, heavy]; omega

section
variable {n : Nat} {adj : Nat → Nat → Prop} {op : Nat → Prop} {cost : Nat → Nat} {b : Nat} {T S : Nat → Option Nat}

theorem chain_len {c : Nat} {l : List Nat} (h : Chain adj b c l) : 1 ≤ l.length := by cases h <;> simp

/-- the two tables know the same cells -/
theorem both_some (hT : Cert n adj op cost b T) (hS : Cert n adj op (heavy cost) b S) (pos : ∀ c, op c → 1 ≤ cost c) (c : Nat) : (∃ t, T c = some t) ↔ ∃ s, S c = some s := by
  constructor
  · rintro ⟨t, ht⟩
    obtain ⟨l, hl, _, _, ha⟩ := hT.chain pos t c t (Nat.le_refl _) ht
    obtain ⟨s, hs, _⟩ := hS.upper hl fun x hx => (ha x hx).2.1
    exact ⟨s, hs⟩
  · rintro ⟨s, hs⟩
    obtain ⟨l, hl, _, _, ha⟩ := hS.chain (fun c _ => by unfold heavy; omega) s c s (Nat.le_refl _) hs
    obtain ⟨t, ht, _⟩ := hT.upper hl fun x hx => (ha x hx).2.1
    exact ⟨t, ht⟩

theorem both_at (hn : n ≤ 256) (hT : Cert n adj op cost b T) (hS : Cert n adj op (heavy cost) b S) (pos : ∀ c, op c → 1 ≤ cost c) {c t s : Nat} (ht : T c = some t) (hs : S c = some s) :
    ∃ k, s = 1024 * t + k ∧ 1 ≤ k ∧ k ≤ 256 := by
  obtain ⟨l, hl, e1, nd, ha⟩ := hT.chain pos t c t (Nat.le_refl _) ht
  obtain ⟨l', hl', e1', nd', ha'⟩ := hS.chain (fun c _ => by unfold heavy; omega) s c s (Nat.le_refl _) hs
  obtain ⟨s2, hs2, le2⟩ := hS.upper hl fun x hx => (ha x hx).2.1
  obtain ⟨t2, ht2, le2'⟩ := hT.upper hl' fun x hx => (ha' x hx).2.1
  rw [hs] at hs2
  rw [ht] at ht2
  have es := Option.some.inj hs2
  have et := Option.some.inj ht2
  subst es et
  rw [sum_heavy] at le2 e1'
  have n1 := nodup_len n l nd fun x hx => (ha x hx).1
  have n2 := nodup_len n l' nd' fun x hx => (ha' x hx).1
  have c1 := chain_len hl'
  have : sumW cost l' = t := by omega
  exact ⟨l'.length, by omega, by omega, by omega⟩

end
end RvM
end
section
set_option Elab.async false
/-! The specification's checked tables are least tables; the second cell of the way by sums. -/
namespace RvM
open Sr37 (Map_ beside)
open Sr38Neutral (near look checkB checkF checkH toldB toldF eqSum tight nextOf leastOf path secondOf backT fewT)

abbrev Adj (m : Map_) (c d : Nat) : Prop := beside m.w m.n c d = true
abbrev Op (m : Map_) (c : Nat) : Prop := m.open_ c = true

theorem open_lt {m : Map_} {c : Nat} (h : m.open_ c = true) : c < m.n ∧ 1 ≤ m.of c ∧ m.of c ≤ 200 := by
  unfold Map_.open_ at h
  simp only [Bool.and_eq_true, decide_eq_true_eq] at h
  exact ⟨h.1.1, h.1.2, h.2⟩

theorem beside_iff {w n c d : Nat} : beside w n c d = true ↔ c < n ∧ d < n ∧ ((c % w = d % w ∧ (c / w = d / w + 1 ∨ d / w = c / w + 1)) ∨ (c / w = d / w ∧ (c % w = d % w + 1 ∨ d % w = c % w + 1))) := by
  unfold beside
  simp only [Bool.and_eq_true, Bool.or_eq_true, decide_eq_true_eq, beq_iff_eq, and_assoc]

theorem beside_symm {w n c d : Nat} (h : beside w n c d = true) : beside w n d c = true := by
  rw [beside_iff] at h ⊢
  obtain ⟨h1, h2, h3⟩ := h
  refine ⟨h2, h1, ?_⟩
  rcases h3 with ⟨e, f⟩ | ⟨e, f⟩
  · exact .inl ⟨e.symm, f.symm⟩
  · exact .inr ⟨e.symm, f.symm⟩

theorem div_mod_next {w c d : Nat} (e : c % w = d % w) (f : c / w = d / w + 1) : c = d + w := by
  have h1 := Nat.div_add_mod c w
  have h2 := Nat.div_add_mod d w
  rw [f, Nat.mul_add] at h1
  omega
theorem div_mod_side {w c d : Nat} (e : c / w = d / w) (f : c % w = d % w + 1) : c = d + 1 := by
  have h1 := Nat.div_add_mod c w
  have h2 := Nat.div_add_mod d w
  rw [e] at h1
  omega

theorem mem_near {m : Map_} {c d : Nat} : d ∈ near m c ↔ Adj m c d := by
  unfold near
  rw [List.mem_filter]
  constructor
  · exact fun h => h.2
  · intro h
    refine ⟨?_, h⟩
    obtain ⟨_, _, h3⟩ := beside_iff.mp h
    simp only [List.mem_cons, List.not_mem_nil, or_false]
    rcases h3 with ⟨e, f | f⟩ | ⟨e, f | f⟩
    · have := div_mod_next e f; omega
    · have := div_mod_next e.symm f; omega
    · have := div_mod_side e f; omega
    · have := div_mod_side e.symm f; omega

theorem eqSum_iff {y : Option Nat} {k x : Nat} : eqSum y k x = true ↔ ∃ v, y = some v ∧ x = k + v := by
  unfold eqSum
  cases y with
  | none => simp
  | some v => simp

theorem atMost_iff {x y : Option Nat} {k : Nat} : Sr38Neutral.atMost x y k = true ↔ ∀ v, y = some v → ∃ u, x = some u ∧ u ≤ k + v := by
  unfold Sr38Neutral.atMost
  cases y with
  | none => simp
  | some v =>
    cases x with
    | none => simp
    | some u => simp

theorem all_range {n : Nat} {p : Nat → Bool} : (List.range n).all p = true ↔ ∀ c, c < n → p c = true := by
  rw [List.all_eq_true]
  exact ⟨fun h c hc => h c (List.mem_range.mpr hc), fun h c hc => h c (List.mem_range.mp hc)⟩

/-- the table by places -/
structure TabB (m : Map_) (b : Nat) (B : Nat → Option Nat) : Prop where
  st : B b = some 0
  told : ∀ c x, B c = some x → m.open_ c = true ∧ ((c = b ∧ x = 0) ∨ ∃ d y, Adj m c d ∧ B d = some y ∧ x = m.of d + y)
  le : ∀ c d y, Adj m c d → m.open_ c = true → B d = some y → ∃ x, B c = some x ∧ x ≤ m.of d + y

theorem tabB {m : Map_} {b : Nat} {B : Nat → Option Nat} (hb : ∀ c x, B c = some x → c < m.n) (h : checkB m b B = true) : TabB m b B := by
  unfold checkB at h
  simp only [Bool.and_eq_true, beq_iff_eq] at h
  obtain ⟨h1, h2, h3⟩ := h
  rw [all_range] at h2 h3
  refine ⟨h1, fun c x hc => ?_, fun c d y ha ho hd => ?_⟩
  · have h4 := h2 c (hb c x hc)
    unfold toldB at h4
    rw [hc] at h4
    simp only [Bool.and_eq_true, Bool.or_eq_true, beq_iff_eq, List.any_eq_true] at h4
    refine ⟨h4.1, ?_⟩
    rcases h4.2 with h5 | ⟨d, hd, e⟩
    · exact .inl h5
    · obtain ⟨y, hy, e2⟩ := eqSum_iff.mp e
      exact .inr ⟨d, y, mem_near.mp hd, hy, e2⟩
  · have h4 := h3 c (open_lt ho).1
    rw [ho] at h4
    simp only [Bool.not_true, Bool.false_or, List.all_eq_true] at h4
    exact atMost_iff.mp (h4 d (mem_near.mpr ha)) y hd

theorem TabB.cert {m : Map_} {b : Nat} {B : Nat → Option Nat} (h : TabB m b B) : Cert m.n (Adj m) (Op m) m.of b (fun c => (B c).map (· + m.of c)) where
  bd := fun c t e => by
    cases hc : B c with
    | none => rw [hc] at e; cases e
    | some x =>
      have ho := (h.told c x hc).1
      exact ⟨(open_lt ho).1, ho⟩
  st := by rw [h.st]; simp
  fr := fun c t e => by
    cases hc : B c with
    | none => rw [hc] at e; cases e
    | some x =>
      rw [hc] at e
      have et : x + m.of c = t := Option.some.inj e
      rcases (h.told c x hc).2 with ⟨rfl, rfl⟩ | ⟨d, y, had, hd, ex⟩
      · exact .inl ⟨rfl, by omega⟩
      · exact .inr ⟨d, y + m.of d, had, by rw [hd]; rfl, by omega⟩
  le := fun c d y ha ho e => by
    cases hd : B d with
    | none => rw [hd] at e; cases e
    | some v =>
      rw [hd] at e
      have ey : v + m.of d = y := Option.some.inj e
      obtain ⟨x, hx, hle⟩ := h.le c d v ha ho hd
      exact ⟨x + m.of c, by rw [hx]; rfl, by omega⟩

/-- the table from a cell on -/
structure TabF (m : Map_) (a : Nat) (F : Nat → Option Nat) : Prop where
  st : F a = some 0
  told : ∀ c x, F c = some x → m.open_ c = true ∧ ((c = a ∧ x = 0) ∨ ∃ d y, Adj m c d ∧ F d = some y ∧ x = m.of c + y)
  le : ∀ c d y, Adj m c d → m.open_ c = true → F d = some y → ∃ x, F c = some x ∧ x ≤ m.of c + y

theorem tabF {m : Map_} {a : Nat} {F : Nat → Option Nat} (hb : ∀ c x, F c = some x → c < m.n) (h : checkF m a F = true) : TabF m a F := by
  unfold checkF at h
  simp only [Bool.and_eq_true, beq_iff_eq] at h
  obtain ⟨h1, h2, h3⟩ := h
  rw [all_range] at h2 h3
  refine ⟨h1, fun c x hc => ?_, fun c d y ha ho hd => ?_⟩
  · have h4 := h2 c (hb c x hc)
    unfold toldF at h4
    rw [hc] at h4
    simp only [Bool.and_eq_true, Bool.or_eq_true, beq_iff_eq, List.any_eq_true] at h4
    refine ⟨h4.1, ?_⟩
    rcases h4.2 with h5 | ⟨d, hd, _, e⟩
    · exact .inl h5
    · obtain ⟨y, hy, e2⟩ := eqSum_iff.mp e
      exact .inr ⟨d, y, mem_near.mp hd, hy, e2⟩
  · have h4 := h3 d (hb d y hd)
    simp only [List.all_eq_true] at h4
    have h5 := h4 c (mem_near.mpr (beside_symm ha))
    rw [ho] at h5
    simp only [Bool.not_true, Bool.false_or] at h5
    exact atMost_iff.mp h5 y hd

theorem TabF.cert {m : Map_} {a : Nat} {F : Nat → Option Nat} (h : TabF m a F) : Cert m.n (Adj m) (Op m) m.of a (fun c => (F c).map (· + m.of a)) where
  bd := fun c t e => by
    cases hc : F c with
    | none => rw [hc] at e; cases e
    | some x =>
      have ho := (h.told c x hc).1
      exact ⟨(open_lt ho).1, ho⟩
  st := by rw [h.st]; simp
  fr := fun c t e => by
    cases hc : F c with
    | none => rw [hc] at e; cases e
    | some x =>
      rw [hc] at e
      have et : x + m.of a = t := Option.some.inj e
      rcases (h.told c x hc).2 with ⟨rfl, rfl⟩ | ⟨d, y, had, hd, ex⟩
      · exact .inl ⟨rfl, by omega⟩
      · exact .inr ⟨d, y + m.of a, had, by rw [hd]; rfl, by omega⟩
  le := fun c d y ha ho e => by
    cases hd : F d with
    | none => rw [hd] at e; cases e
    | some v =>
      rw [hd] at e
      have ey : v + m.of a = y := Option.some.inj e
      obtain ⟨x, hx, hle⟩ := h.le c d v ha ho hd
      exact ⟨x + m.of a, by rw [hx]; rfl, by omega⟩

theorem op_pos {m : Map_} : ∀ c, Op m c → 1 ≤ m.of c := fun _ h => (open_lt h).2.1

section
variable {m : Map_} {b : Nat} {B : Nat → Option Nat} {S : Nat → Option Nat}
abbrev SumCert (m : Map_) (b : Nat) (S : Nat → Option Nat) : Prop := Cert m.n (Adj m) (Op m) (heavy m.of) b S

/-- by sums: what it takes home -/
theorem back_at (hn : m.n ≤ 256) (h : TabB m b B) (hS : SumCert m b S) (c : Nat) : (B c = none ∧ S c = none) ∨ ∃ x k, B c = some x ∧ S c = some (1024 * (x + m.of c) + k) ∧ 1 ≤ k ∧ k ≤ 256 := by
  have hi := both_some h.cert hS op_pos c
  cases hc : B c with
  | none =>
    left
    refine ⟨rfl, ?_⟩
    cases hs : S c with
    | none => rfl
    | some s =>
      obtain ⟨t, ht⟩ := hi.mpr ⟨s, hs⟩
      rw [hc] at ht
      cases ht
  | some x =>
    right
    obtain ⟨s, hs⟩ := hi.mp ⟨x + m.of c, by rw [hc]; rfl⟩
    obtain ⟨k, e, h1, h2⟩ := both_at hn h.cert hS op_pos (show (B c).map (· + m.of c) = some (x + m.of c) by rw [hc]; rfl) hs
    exact ⟨x, k, rfl, by rw [hs, e], h1, h2⟩

/-- by sums: what it takes to go there -/
theorem forth_at {a : Nat} {F : Nat → Option Nat} (hn : m.n ≤ 256) (h : TabF m a F) (hS : SumCert m a S) (c : Nat) : (F c = none ∧ S c = none) ∨ ∃ x k, F c = some x ∧ S c = some (1024 * (x + m.of a) + k) ∧ 1 ≤ k ∧ k ≤ 256 := by
  have hi := both_some h.cert hS op_pos c
  cases hc : F c with
  | none =>
    left
    refine ⟨rfl, ?_⟩
    cases hs : S c with
    | none => rfl
    | some s =>
      obtain ⟨t, ht⟩ := hi.mpr ⟨s, hs⟩
      rw [hc] at ht
      cases ht
  | some x =>
    right
    obtain ⟨s, hs⟩ := hi.mp ⟨x + m.of a, by rw [hc]; rfl⟩
    obtain ⟨k, e, h1, h2⟩ := both_at hn h.cert hS op_pos (show (F c).map (· + m.of a) = some (x + m.of a) by rw [hc]; rfl) hs
    exact ⟨x, k, rfl, by rw [hs, e], h1, h2⟩

theorem leastOf_some : ∀ {l : List Nat} {d : Nat}, leastOf l = some d → d ∈ l ∧ ∀ x ∈ l, d ≤ x
  | [], d, h => by cases h
  | a :: l, d, h => by
    unfold leastOf at h
    cases e : leastOf l with
    | none =>
      rw [e] at h
      have := Option.some.inj h
      subst this
      have hl : l = [] := by
        cases l with
        | nil => rfl
        | cons y r =>
          unfold leastOf at e
          cases e2 : leastOf r <;> rw [e2] at e <;> cases e
      subst hl
      simp
    | some z =>
      rw [e] at h
      have hz := leastOf_some e
      have := Option.some.inj h
      subst this
      refine ⟨?_, fun x hx => ?_⟩
      · rw [List.mem_cons]
        by_cases hh : a ≤ z
        · left; exact Nat.min_eq_left hh
        · right; rw [Nat.min_eq_right (by omega)]; exact hz.1
      · rw [List.mem_cons] at hx
        rcases hx with rfl | hx
        · exact Nat.min_le_left _ _
        · exact Nat.le_trans (Nat.min_le_right _ _) (hz.2 x hx)

theorem tight_iff {c d : Nat} : tight m B c d = true ↔ Adj m c d ∧ ∃ x y, B c = some x ∧ B d = some y ∧ x = m.of d + y := by
  unfold tight
  rw [Bool.and_eq_true]
  cases hc : B c with
  | none => simp
  | some x =>
    simp only [eqSum_iff]
    constructor
    · rintro ⟨h1, y, h2, h3⟩
      exact ⟨h1, x, y, rfl, h2, h3⟩
    · rintro ⟨h1, x', y, h0, h2, h3⟩
      cases h0
      exact ⟨h1, y, h2, h3⟩

/-- the table of fewest cells by places -/
structure TabH (m : Map_) (b : Nat) (B : Nat → Option Nat) (Hh : Nat → Nat) : Prop where
  st : Hh b = 0
  nx : ∀ c x, B c = some x → c ≠ b → Hh c ≠ 0 ∧ ∃ d, nextOf m B Hh c = some d
  le : ∀ c d, tight m B c d = true → Hh c ≤ Hh d + 1

theorem tabH {Hh : Nat → Nat} (hb : ∀ c x, B c = some x → c < m.n) (h : checkH m b B Hh = true) : TabH m b B Hh := by
  unfold checkH at h
  simp only [Bool.and_eq_true, beq_iff_eq] at h
  obtain ⟨h1, h2⟩ := h
  rw [all_range] at h2
  refine ⟨h1, fun c x hc hne => ?_, fun c d ht => ?_⟩
  · have h3 := h2 c (hb c x hc)
    simp only [Bool.and_eq_true, Bool.or_eq_true, beq_iff_eq, bne_iff_ne, ne_eq] at h3
    rcases h3.1 with h4 | h4 | h4
    · rw [hc] at h4; cases h4
    · exact absurd h4 hne
    · refine ⟨h4.1, ?_⟩
      cases e : nextOf m B Hh c with
      | none => rw [e] at h4; cases h4.2
      | some d => exact ⟨d, rfl⟩
  · obtain ⟨ha, x, y, hx, hy, _⟩ := tight_iff.mp ht
    have h3 := h2 c (hb c x hx)
    simp only [Bool.and_eq_true, List.all_eq_true] at h3
    have h4 := h3.2 d (mem_near.mpr ha)
    rw [ht] at h4
    simpa using h4

theorem nextOf_some {Hh : Nat → Nat} {c d : Nat} (h : nextOf m B Hh c = some d) : (tight m B c d = true ∧ Hh d + 1 = Hh c) ∧ ∀ x, tight m B c x = true → Hh x + 1 = Hh c → d ≤ x := by
  unfold nextOf at h
  obtain ⟨h1, h2⟩ := leastOf_some h
  rw [List.mem_filter] at h1
  simp only [Bool.and_eq_true, beq_iff_eq] at h1
  refine ⟨h1.2, fun x hx e => h2 x ?_⟩
  rw [List.mem_filter]
  simp only [Bool.and_eq_true, beq_iff_eq]
  exact ⟨mem_near.mpr (tight_iff.mp hx).1, hx, e⟩

/-- by sums: cost and cells -/
theorem sum_at {Hh : Nat → Nat} (hn : m.n ≤ 256) (h : TabB m b B) (hH : TabH m b B Hh) (hS : SumCert m b S) {c x : Nat} (hc : B c = some x) : S c = some (1024 * (x + m.of c) + Hh c + 1) := by
  have up : ∀ (k c x : Nat), Hh c ≤ k → B c = some x → ∃ s, S c = some s ∧ s ≤ 1024 * (x + m.of c) + Hh c + 1 := by
    intro k
    induction k with
    | zero =>
      intro c x hk hc
      have e : c = b := Classical.byContradiction fun hne => (hH.nx c x hc hne).1 (by omega)
      subst e
      exact ⟨_, hS.st, by unfold heavy; omega⟩
    | succ k ih =>
      intro c x hk hc
      by_cases e : c = b
      · subst e
        exact ⟨_, hS.st, by unfold heavy; omega⟩
      · obtain ⟨d, hd⟩ := (hH.nx c x hc e).2
        obtain ⟨⟨ht, eh⟩, _⟩ := nextOf_some hd
        obtain ⟨ha, x', y, hx', hy, exy⟩ := tight_iff.mp ht
        rw [hc] at hx'
        cases hx'
        obtain ⟨s, hs, hle⟩ := ih d y (by omega) hy
        obtain ⟨s', hs', hle'⟩ := hS.le c d s ha (h.told c x hc).1 hs
        exact ⟨s', hs', by unfold heavy at hle'; omega⟩
  have lo : ∀ (k c x s : Nat), s ≤ k → B c = some x → S c = some s → 1024 * (x + m.of c) + Hh c + 1 ≤ s := by
    intro k
    induction k with
    | zero =>
      intro c x s hk hc hs
      rcases hS.fr c s hs with ⟨_, e⟩ | ⟨d, y, _, _, e⟩ <;> unfold heavy at e <;> omega
    | succ k ih =>
      intro c x s hk hc hs
      rcases hS.fr c s hs with ⟨e1, e⟩ | ⟨d, y, ha, hd, e⟩
      · subst e1
        rw [h.st] at hc
        cases hc
        rw [hH.st]
        unfold heavy at e
        omega
      · rcases back_at hn h hS d with ⟨_, hd2⟩ | ⟨xd, kd, hBd, hSd, k1, k2⟩
        · rw [hd2] at hd
          cases hd
        · rcases back_at hn h hS c with ⟨hc2, _⟩ | ⟨xc, kc, hBc, hSc, k3, k4⟩
          · rw [hc2] at hc
            cases hc
          · rw [hc] at hBc
            cases hBc
            rw [hd] at hSd
            rw [hs] at hSc
            have e2 := Option.some.inj hSd
            have e3 := Option.some.inj hSc
            have hle := h.le c d xd ha (h.told c x hc).1 hBd
            obtain ⟨x2, hx2, hle2⟩ := hle
            rw [hc] at hx2
            cases hx2
            unfold heavy at e
            have ex : x = m.of d + xd := by omega
            have ih2 := ih d xd y (by omega) hBd hd
            have h3 := hH.le c d (tight_iff.mpr ⟨ha, x, xd, hc, hBd, ex⟩)
            omega
  obtain ⟨s, hs, hle⟩ := up (Hh c) c x (Nat.le_refl _) hc
  have := lo s c x s (Nat.le_refl _) hc hs
  rw [hs]
  exact congrArg some (by omega)

theorem sum_small {Hh : Nat → Nat} (hn : m.n ≤ 256) (h : TabB m b B) (hH : TabH m b B Hh) (hS : SumCert m b S) {c x : Nat} (hc : B c = some x) : Hh c ≤ 255 := by
  have h1 := sum_at hn h hH hS hc
  rcases back_at hn h hS c with ⟨hc2, _⟩ | ⟨xc, kc, hBc, hSc, k3, k4⟩
  · rw [hc2] at hc
    cases hc
  · rw [hc] at hBc
    cases hBc
    rw [h1] at hSc
    have := Option.some.inj hSc
    omega

theorem look_lt {α : Type} {t : Array (Option α)} {c : Nat} {x : α} (h : look m t c = some x) : c < m.n := by
  unfold look at h
  split at h
  · assumption
  · cases h

/-- the second cell of the way, by sums: the least neighbour from which what's left of the sum goes on -/
theorem second_by_sums {a d : Nat} (hn : m.n ≤ 256) (hS : SumCert m b S) (h : secondOf m a b = some d) :
    ∃ sa sd, a ≠ b ∧ S a = some sa ∧ Adj m a d ∧ S d = some sd ∧ sd + heavy m.of a = sa ∧ (∀ e se, Adj m a e → S e = some se → se + heavy m.of a = sa → d ≤ e) ∧
      TabB m b (look m (backT m b)) ∧ ∃ x y, look m (backT m b) a = some x ∧ look m (backT m b) d = some y ∧ x = m.of d + y := by
  unfold secondOf at h
  simp only at h
  split at h
  next hB =>
    split at h
    next hH =>
      have TB := tabB (fun c x => look_lt) hB
      have TH := tabH (fun c x => look_lt) hH
      split at h
      next => cases h
      next x hx =>
        generalize hHH : (fun c => (look m (fewT m b (look m (backT m b))) c).getD 0) = Hh at h TH
        have hHa : (look m (fewT m b (look m (backT m b))) a).getD 0 = Hh a := by rw [← hHH]
        rw [hHa] at h
        cases hk : Hh a with
        | zero =>
          rw [hk] at h
          unfold path at h
          cases h
        | succ k =>
          rw [hk] at h
          unfold path at h
          cases hd : nextOf m (look m (backT m b)) Hh a with
          | none => rw [hd] at h; cases h
          | some d' =>
            rw [hd] at h
            have ed : d' = d := by
              cases k with
              | zero => unfold path at h; simpa using h
              | succ k =>
                unfold path at h
                dsimp only at h
                cases hd2 : nextOf m (look m (backT m b)) Hh d' <;> rw [hd2] at h <;> simpa using h
            subst ed
            obtain ⟨⟨ht, eh⟩, hmin⟩ := nextOf_some hd
            obtain ⟨ha, x', y, hx', hy, exy⟩ := tight_iff.mp ht
            rw [hx] at hx'
            cases hx'
            have sa := sum_at hn TB TH hS hx
            have sd := sum_at hn TB TH hS hy
            refine ⟨_, _, ?_, sa, ha, sd, ?_, ?_, TB, x, y, hx, hy, exy⟩
            · intro e
              rw [e, TH.st] at hk
              cases hk
            · unfold heavy; omega
            · intro e se hae hse hes
              rcases back_at hn TB hS e with ⟨_, he2⟩ | ⟨xe, ke, hBe, hSe, k1, k2⟩
              · rw [he2] at hse
                cases hse
              · have se2 := sum_at hn TB TH hS hBe
                rw [hse] at se2
                have e2 := Option.some.inj se2
                have s1 := sum_small hn TB TH hS hx
                have s2 := sum_small hn TB TH hS hBe
                unfold heavy at hes
                have ex : x = m.of e + xe := by omega
                refine hmin e (tight_iff.mpr ⟨hae, x, xe, hx, hBe, ex⟩) (by omega)
    next => cases h
  next => cases h
end
end RvM
end
section
set_option Elab.async false
/-! The program's search for the lightest ways: what holds between two turns. -/
namespace RvM
open Sr37 (Map_)

abbrev cells (ed : List (Nat × Nat)) : List Nat := ed.map (·.2)

section
variable (n : Nat) (adj : Nat → Nat → Prop) (ws : Nat → Nat) (b : Nat)
structure Out (ss : Nat → Nat) (ed : List (Nat × Nat)) : Prop where
  nd : (cells ed).Nodup
  ent : ∀ y c, (y, c) ∈ ed → y = ss c ∧ ss c ≠ 0 ∧ c < n
  wz : ∀ c, ss c ≠ 0 → c < n ∧ ws c ≠ 0
  st : ss b = ws b ∧ ws b ≠ 0
  src : ∀ c, ss c ≠ 0 → c = b ∨ ∃ p, adj c p ∧ ss p ≠ 0 ∧ p ∉ cells ed ∧ ss c = ss p + ws c
  fin : ∀ p, ss p ≠ 0 → p ∉ cells ed → ∀ d, adj d p → ws d ≠ 0 → ss d ≠ 0 ∧ ss d ≤ ss p + ws d
  low : ∀ p, ss p ≠ 0 → p ∉ cells ed → ∀ y c, (y, c) ∈ ed → ss p ≤ y

structure Mid (q x : Nat) (tk : Nat → Prop) (ss : Nat → Nat) (ed : List (Nat × Nat)) : Prop where
  nd : (cells ed).Nodup
  ent : ∀ y c, (y, c) ∈ ed → y = ss c ∧ ss c ≠ 0 ∧ c < n ∧ x ≤ y
  q0 : ss q = x ∧ x ≠ 0 ∧ q < n ∧ q ∉ cells ed
  wz : ∀ c, ss c ≠ 0 → c < n ∧ ws c ≠ 0
  st : ss b = ws b ∧ ws b ≠ 0
  src : ∀ c, ss c ≠ 0 → c = b ∨ ∃ p, adj c p ∧ ss p ≠ 0 ∧ p ∉ cells ed ∧ ss c = ss p + ws c
  fin : ∀ p, ss p ≠ 0 → p ∉ cells ed → p ≠ q → ∀ d, adj d p → ws d ≠ 0 → ss d ≠ 0 ∧ ss d ≤ ss p + ws d
  low : ∀ p, ss p ≠ 0 → p ∉ cells ed → ss p ≤ x
  cur : ∀ d, tk d → ws d ≠ 0 → ss d ≠ 0 ∧ ss d ≤ x + ws d
end

section
variable {n : Nat} {adj : Nat → Nat → Prop} {ws : Nat → Nat} {b : Nat} {ss : Nat → Nat} {ed : List (Nat × Nat)}

theorem Out.start (hb : b < n) (hw : ws b ≠ 0) (irr : ¬ adj b b) : Out n adj ws b (fun c => if c = b then ws b else 0) [(ws b, b)] where
  nd := by simp [cells]
  ent := fun y c h => by
    rw [List.mem_singleton] at h
    cases h
    simp [hw, hb]
  wz := fun c h => by
    by_cases e : c = b
    · subst e; exact ⟨hb, hw⟩
    · simp [e] at h
  st := ⟨by simp, hw⟩
  src := fun c h => by
    by_cases e : c = b
    · exact .inl e
    · simp [e] at h
  fin := fun p h hp => by
    by_cases e : p = b
    · exact absurd (by simp [cells, e]) hp
    · simp [e] at h
  low := fun p h hp => by
    by_cases e : p = b
    · exact absurd (by simp [cells, e]) hp
    · simp [e] at h

theorem nodup_split {l r : List (Nat × Nat)} {x q : Nat} (h : (cells (l ++ (x, q) :: r)).Nodup) : (cells (l ++ r)).Nodup ∧ q ∉ cells (l ++ r) := by
  have e : (cells (l ++ (x, q) :: r)) = cells l ++ q :: cells r := by simp [cells]
  have e2 : cells (l ++ r) = cells l ++ cells r := by simp [cells]
  rw [e] at h
  rw [e2]
  rw [List.nodup_append] at h ⊢
  obtain ⟨h1, h2, h3⟩ := h
  rw [List.nodup_cons] at h2
  refine ⟨⟨h1, h2.2, fun a ha c hc => h3 a ha c (List.mem_cons_of_mem _ hc)⟩, fun hm => ?_⟩
  rw [List.mem_append] at hm
  rcases hm with hm | hm
  · exact h3 q hm q List.mem_cons_self rfl
  · exact h2.1 hm

theorem mem_cells_split {l r : List (Nat × Nat)} {x q p : Nat} : p ∈ cells (l ++ (x, q) :: r) ↔ p = q ∨ p ∈ cells (l ++ r) := by
  simp [cells]
  constructor
  · rintro (h | h | h)
    · exact .inr (.inl h)
    · exact .inl h
    · exact .inr (.inr h)
  · rintro (h | h | h)
    · exact .inr (.inl h)
    · exact .inl h
    · exact .inr (.inr h)

/-- the nearest is taken out -/
theorem Out.pop {l r : List (Nat × Nat)} {x q : Nat} (h : Out n adj ws b ss (l ++ (x, q) :: r)) (hmin : ∀ y c, (y, c) ∈ l ++ (x, q) :: r → x ≤ y) :
    Mid n adj ws b q x (fun _ => False) ss (l ++ r) := by
  have hq := h.ent x q (by simp)
  obtain ⟨nd, nq⟩ := nodup_split h.nd
  have sub : ∀ y c, (y, c) ∈ l ++ r → (y, c) ∈ l ++ (x, q) :: r := fun y c hm => by
    rw [List.mem_append] at hm ⊢
    rcases hm with hm | hm
    · exact .inl hm
    · exact .inr (List.mem_cons_of_mem _ hm)
  refine ⟨nd, fun y c hm => ?_, ⟨hq.1.symm, hq.1 ▸ hq.2.1, hq.2.2, nq⟩, h.wz, h.st, fun c hc => ?_, fun p hp hm hne => ?_, fun p hp hm => ?_, fun _ f => f.elim⟩
  · obtain ⟨h1, h2, h3⟩ := h.ent y c (sub y c hm)
    exact ⟨h1, h2, h3, hmin y c (sub y c hm)⟩
  · rcases h.src c hc with e | ⟨p, h1, h2, h3, h4⟩
    · exact .inl e
    · exact .inr ⟨p, h1, h2, fun hm => h3 (mem_cells_split.mpr (.inr hm)), h4⟩
  · refine h.fin p hp fun hm2 => ?_
    rcases mem_cells_split.mp hm2 with e | e
    · exact hne e
    · exact hm e
  · by_cases e : p = q
    · subst e
      omega
    · refine h.low p hp (fun hm2 => ?_) x q (by simp)
      rcases mem_cells_split.mp hm2 with e2 | e2
      · exact e e2
      · exact hm e2

variable {q x : Nat} {tk : Nat → Prop}
/-- a neighbour that no way goes by, or that has its sum -/
theorem Mid.skip {d : Nat} (h : Mid n adj ws b q x tk ss ed) (hs : ws d = 0 ∨ ss d ≠ 0) : Mid n adj ws b q x (fun e => tk e ∨ e = d) ss ed := by
  refine ⟨h.nd, h.ent, h.q0, h.wz, h.st, h.src, h.fin, h.low, fun e he hw => ?_⟩
  rcases he with he | rfl
  · exact h.cur e he hw
  · have hz : ss e ≠ 0 := by
      rcases hs with hs | hs
      · exact absurd hs hw
      · exact hs
    refine ⟨hz, ?_⟩
    rcases h.src e hz with e2 | ⟨p, _, h2, h3, h4⟩
    · have := h.st.1
      rw [e2]
      omega
    · have := h.low p h2 h3
      omega

/-- a neighbour that gets its sum -/
theorem Mid.push {d : Nat} (h : Mid n adj ws b q x tk ss ed) (hd : d < n) (ha : adj d q) (hw : ws d ≠ 0) (hz : ss d = 0) :
    Mid n adj ws b q x (fun e => tk e ∨ e = d) (fun c => if c = d then x + ws d else ss c) (ed ++ [(x + ws d, d)]) := by
  have ne : ∀ {c}, ss c ≠ 0 → c ≠ d := fun hc e => hc (e ▸ hz)
  have same : ∀ {c}, ss c ≠ 0 → (if c = d then x + ws d else ss c) = ss c := fun hc => if_neg (ne hc)
  have hcell : ∀ {c}, c ∈ cells (ed ++ [(x + ws d, d)]) ↔ c ∈ cells ed ∨ c = d := by intro c; simp [cells]
  have ncell : d ∉ cells ed := fun hm => by
    simp only [cells, List.mem_map] at hm
    obtain ⟨⟨y, c⟩, hm, e⟩ := hm
    simp at e
    subst e
    exact (h.ent y c hm).2.1 hz
  have nz : ∀ {c}, (if c = d then x + ws d else ss c) ≠ 0 → c = d ∨ ss c ≠ 0 := fun {c} hc => by
    by_cases e : c = d
    · exact .inl e
    · rw [if_neg e] at hc; exact .inr hc
  refine ⟨?_, ?_, ?_, ?_, ?_, ?_, ?_, ?_, ?_⟩
  · simp only [cells, List.map_append, List.map_cons, List.map_nil]
    rw [List.nodup_append]
    refine ⟨h.nd, by simp, fun a ha2 c hc e => ?_⟩
    rw [List.mem_singleton] at hc
    subst hc
    exact ncell (e ▸ ha2)
  · intro y c hm
    rw [List.mem_append, List.mem_singleton] at hm
    rcases hm with hm | hm
    · obtain ⟨h1, h2, h3, h4⟩ := h.ent y c hm
      rw [same h2]
      exact ⟨h1, h2, h3, h4⟩
    · cases hm
      rw [if_pos rfl]
      exact ⟨rfl, by omega, hd, by omega⟩
  · obtain ⟨h1, h2, h3, h4⟩ := h.q0
    have hqz : ss q ≠ 0 := by omega
    rw [same hqz]
    refine ⟨h1, h2, h3, fun hm => ?_⟩
    rcases hcell.mp hm with hm | hm
    · exact h4 hm
    · exact ne hqz hm
  · intro c hc
    rcases nz hc with rfl | hc
    · exact ⟨hd, hw⟩
    · exact h.wz c hc
  · have := h.st
    rw [same (by omega)]
    exact this
  · intro c hc
    rcases nz hc with rfl | hc
    · right
      have hqz : ss q ≠ 0 := by have := h.q0; omega
      refine ⟨q, ha, by rw [same hqz]; exact hqz, fun hm => ?_, ?_⟩
      · rcases hcell.mp hm with hm | hm
        · exact h.q0.2.2.2 hm
        · exact ne hqz hm
      · rw [if_pos rfl, same hqz, h.q0.1]
    · rcases h.src c hc with e | ⟨p, h1, h2, h3, h4⟩
      · exact .inl e
      · right
        refine ⟨p, h1, by rw [same h2]; exact h2, fun hm => ?_, by rw [same h2, same hc]; exact h4⟩
        rcases hcell.mp hm with hm | hm
        · exact h3 hm
        · exact ne h2 hm
  · intro p hp hm hq e hae hwe
    rcases nz hp with rfl | hp
    · exact absurd (hcell.mpr (.inr rfl)) hm
    · have := h.fin p hp (fun hh => hm (hcell.mpr (.inl hh))) hq e hae hwe
      rw [same this.1, same hp]
      exact this
  · intro p hp hm
    rcases nz hp with rfl | hp
    · exact absurd (hcell.mpr (.inr rfl)) hm
    · rw [same hp]
      exact h.low p hp fun hh => hm (hcell.mpr (.inl hh))
  · intro e he hwe
    rcases he with he | rfl
    · have := h.cur e he hwe
      rw [same this.1]
      exact this
    · rw [if_pos rfl]
      exact ⟨by omega, Nat.le_refl _⟩

/-- all neighbours are taken -/
theorem Mid.out (h : Mid n adj ws b q x tk ss ed) (hall : ∀ d, adj d q → tk d) : Out n adj ws b ss ed := by
  refine ⟨h.nd, fun y c hm => ?_, h.wz, h.st, h.src, fun p hp hm d had hw => ?_, fun p hp hm y c hyc => ?_⟩
  · obtain ⟨h1, h2, h3, _⟩ := h.ent y c hm
    exact ⟨h1, h2, h3⟩
  · by_cases e : p = q
    · subst e
      rw [h.q0.1]
      exact h.cur d (hall d had) hw
    · exact h.fin p hp hm e d had hw
  · exact Nat.le_trans (h.low p hp hm) (h.ent y c hyc).2.2.2

/-- nothing is left: a table of least sums -/
theorem Out.cert (h : Out n adj ws b ss []) : Cert n adj (fun c => c < n ∧ ws c ≠ 0) ws b (fun c => if ss c = 0 then none else some (ss c)) where
  bd := fun c t e => by
    by_cases hz : ss c = 0
    · rw [if_pos hz] at e; cases e
    · exact ⟨(h.wz c hz).1, h.wz c hz⟩
  st := by
    have := h.st
    rw [if_neg (by omega), this.1]
  fr := fun c t e => by
    by_cases hz : ss c = 0
    · rw [if_pos hz] at e; cases e
    · rw [if_neg hz] at e
      have et := Option.some.inj e
      rcases h.src c hz with e2 | ⟨p, h1, h2, _, h4⟩
      · left
        refine ⟨e2, ?_⟩
        rw [← et, e2]
        exact h.st.1
      · exact .inr ⟨p, ss p, h1, by rw [if_neg h2], by omega⟩
  le := fun c d y ha hc e => by
    by_cases hz : ss d = 0
    · rw [if_pos hz] at e; cases e
    · rw [if_neg hz] at e
      have ey := Option.some.inj e
      have := h.fin d hz (by simp [cells]) c ha hc.2
      exact ⟨ss c, by rw [if_neg this.1], by omega⟩
end

theorem Cert.congr {n : Nat} {adj : Nat → Nat → Prop} {op op' : Nat → Prop} {wt wt' : Nat → Nat} {b : Nat} {T : Nat → Option Nat} (h : Cert n adj op wt b T) (ho : ∀ c, c < n → (op c ↔ op' c)) (hw : ∀ c, op c → wt c = wt' c) (had : ∀ c d, adj c d → c < n) :
    Cert n adj op' wt' b T where
  bd := fun c t e => let ⟨h1, h2⟩ := h.bd c t e; ⟨h1, (ho c h1).mp h2⟩
  st := by rw [h.st, hw b (h.bd b _ h.st).2]
  fr := fun c t e => by
    have ho1 := (h.bd c t e).2
    rw [← hw c ho1]
    rcases h.fr c t e with ⟨h1, h2⟩ | h1
    · exact .inl ⟨h1, by rw [h2, ← hw b (h1 ▸ ho1)]⟩
    · exact .inr h1
  le := fun c d y ha hc e => by
    have hop := (ho c (had c d ha)).mpr hc
    rw [← hw c hop]
    exact h.le c d y ha hop e

/-- what a free cell weighs; 0: no way goes by it -/
def weigh (m : Map_) (c : Nat) : Nat := if m.open_ c = true then heavy m.of c else 0
theorem weigh_ne {m : Map_} {c : Nat} : weigh m c ≠ 0 ↔ m.open_ c = true := by
  unfold weigh heavy
  split <;> simp_all

theorem Out.sums {m : Map_} {b : Nat} {ss : Nat → Nat} (h : Out m.n (Adj m) (weigh m) b ss []) : SumCert m b (fun c => if ss c = 0 then none else some (ss c)) := by
  refine h.cert.congr (fun c hc => ?_) (fun c hc => ?_) (fun c d ha => (beside_iff.mp ha).1)
  · rw [weigh_ne]
    exact ⟨fun q => q.2, fun q => ⟨hc, q⟩⟩
  · have := weigh_ne.mp hc.2
    unfold weigh
    rw [if_pos this]

theorem adj_irr {m : Map_} {c : Nat} : ¬ Adj m c c := fun h => by
  obtain ⟨_, _, h3⟩ := beside_iff.mp h
  omega
end RvM
end
section
set_option Elab.async false
/-! The rover's state in the specification: what holds of it, call by call. -/
namespace RvM
open Sr37 (Map_ beside okSize)
open Sr38 (Rover Ev Ans Msg okCost without messageOf bytesOf startR okStart)
open Sr38Neutral (look checkB checkF secondOf backT forthT seesF canB restF stepR goals leastPair reckonR)

/-- what holds of a rover and its ground -/
structure WF (r : Rover) (g : List Nat) : Prop where
  w1 : 1 ≤ r.map.w
  w2 : r.map.w ≤ 16
  h1 : 1 ≤ r.map.h
  h2 : r.map.h ≤ 16
  hm : r.home < r.n
  pl : r.place < r.n
  cl : r.map.cost.length = 256
  ck : ∀ c, r.map.of c = 0 ∨ okCost (r.map.of c) = true
  gl : g.length = 256
  gk : ∀ x ∈ g, okCost x = true
  bn : r.been.Nodup
  bl : ∀ c ∈ r.been, c < r.n
  bp : r.place ∈ r.been
  al : ∀ c ∈ r.avoid, c < r.n
  ah : r.home ∉ r.avoid
  sn : r.saw.Nodup
  sm : ∀ c, c ∈ r.saw ↔ c < r.n ∧ r.map.of c ≠ 0
  hd : r.had ≤ r.saw.length
  od : r.order ≤ 65535
  safe : r.place ≠ r.home → ∃ l, Chain (Adj r.free) r.home r.place l ∧ (∀ x ∈ l, Op r.free x) ∧ sumW r.free.of l ≤ r.left + r.free.of r.place

theorem n_le {w h : Nat} (hw : w ≤ 16) (hh : h ≤ 16) : w * h ≤ 256 := Nat.mul_le_mul hw hh
theorem WF.n256 {r : Rover} {g : List Nat} (W : WF r g) : r.n ≤ 256 := n_le W.w2 W.h2
theorem okCost_iff {x : Nat} : okCost x = true ↔ (1 ≤ x ∧ x ≤ 200) ∨ x = 255 := by
  unfold okCost Sr37.MOST Sr38.CLOSED
  simp only [Bool.or_eq_true, Bool.and_eq_true, decide_eq_true_eq, beq_iff_eq]

theorem getD_mapIdx {l : List Nat} {f : Nat → Nat → Nat} {c : Nat} (h : c < l.length) : (l.mapIdx f).getD c 0 = f c (l.getD c 0) := by
  simp [List.getD_eq_getElem?_getD, h]
theorem getD_out {l : List Nat} {c : Nat} (h : l.length ≤ c) : l.getD c 0 = 0 := by
  simp [List.getD_eq_getElem?_getD, List.getElem?_eq_none_iff.mpr h]

theorem without_of {m : Map_} {av : List Nat} {c : Nat} : (without m av).of c = if av.contains c = true ∧ m.of c ≠ 0 then 255 else m.of c := by
  unfold without Map_.of
  by_cases h : c < m.cost.length
  · rw [getD_mapIdx h]
    simp [Sr38.CLOSED]
  · rw [getD_out (by simp; omega), getD_out (by omega)]
    simp
theorem without_n {m : Map_} {av : List Nat} : (without m av).n = m.n := rfl
theorem without_w {m : Map_} {av : List Nat} : (without m av).w = m.w := rfl

theorem without_open {m : Map_} {av : List Nat} {c : Nat} : (without m av).open_ c = true ↔ m.open_ c = true ∧ c ∉ av := by
  have hof := without_of (m := m) (av := av) (c := c)
  have hmem : av.contains c = true ↔ c ∈ av := by simp
  constructor
  · intro h
    obtain ⟨h1, h2, h3⟩ := open_lt h
    rw [hof] at h2 h3
    by_cases hc : av.contains c = true ∧ m.of c ≠ 0
    · rw [if_pos hc] at h3; omega
    · rw [if_neg hc] at h2 h3
      refine ⟨?_, fun hm => hc ⟨hmem.mpr hm, by omega⟩⟩
      unfold Map_.open_
      simp only [Bool.and_eq_true, decide_eq_true_eq]
      exact ⟨⟨h1, h2⟩, h3⟩
  · rintro ⟨h, hn⟩
    obtain ⟨h1, h2, h3⟩ := open_lt h
    unfold Map_.open_
    rw [hof, if_neg (fun q => hn (hmem.mp q.1))]
    simp only [Bool.and_eq_true, decide_eq_true_eq]
    exact ⟨⟨h1, h2⟩, h3⟩
theorem without_of_open {m : Map_} {av : List Nat} {c : Nat} (h : c ∉ av) : (without m av).of c = m.of c := by
  rw [without_of, if_neg (fun q => h (by simpa using q.1))]

/-- what a cell weighs, by its cost and whether it's to be kept out of -/
theorem weigh_without {m : Map_} {av : List Nat} {c : Nat} (hc : c < m.n) (hk : m.of c = 0 ∨ okCost (m.of c) = true) :
    weigh (without m av) c = if m.of c = 0 ∨ m.of c = 255 ∨ c ∈ av then 0 else 1024 * m.of c + 1 := by
  unfold weigh
  by_cases ho : (without m av).open_ c = true
  · rw [if_pos ho]
    obtain ⟨h1, h2⟩ := without_open.mp ho
    obtain ⟨_, h3, h4⟩ := open_lt h1
    rw [if_neg (by intro q; rcases q with q | q | q; omega; omega; exact h2 q)]
    unfold heavy
    rw [without_of_open h2]
  · rw [if_neg ho]
    rw [if_pos]
    rcases hk with hk | hk
    · exact .inl hk
    · rcases okCost_iff.mp hk with hk | hk
      · right; right
        refine Classical.byContradiction fun hn => ho (without_open.mpr ⟨?_, hn⟩)
        unfold Map_.open_
        simp only [Bool.and_eq_true, decide_eq_true_eq]
        exact ⟨⟨hc, hk.1⟩, hk.2⟩
      · exact .inr (.inl hk)

/-! ### ways between tables -/
section
variable {n : Nat} {adj : Nat → Nat → Prop} {op : Nat → Prop} {wt : Nat → Nat}
/-- along a row of cells, from its first on -/
theorem Cert.along {b c a : Nat} {T : Nat → Option Nat} {l : List Nat} (symm : ∀ x y, adj x y → adj y x) (h : Cert n adj op wt a T) (hl : Chain adj b c l) : (∀ x ∈ l, op x) → ∀ y, T c = some y → ∃ z, T b = some z ∧ z + wt c ≤ y + sumW wt l := by
  induction hl with
  | here =>
    intro _ y hy
    exact ⟨y, hy, by rw [sumW_cons, sumW_nil]; omega⟩
  | @on c d l had hl ih =>
    intro ho y hy
    have hd : op d := by
      cases hl with
      | here => exact ho b (by simp)
      | on _ _ => exact ho d (by simp)
    obtain ⟨x, hx, hle⟩ := h.le d c y (symm c d had) hd hy
    obtain ⟨z, hz, hle2⟩ := ih (fun x hx => ho x (List.mem_cons_of_mem _ hx)) x hx
    exact ⟨z, hz, by rw [sumW_cons]; omega⟩
/-- along a row of cells, back from its last -/
theorem Cert.back {b c a : Nat} {T : Nat → Option Nat} {l : List Nat} (h : Cert n adj op wt a T) (hl : Chain adj b c l) : (∀ x ∈ l, op x) → ∀ y, T b = some y → ∃ z, T c = some z ∧ z + wt b ≤ y + sumW wt l := by
  induction hl with
  | here =>
    intro _ y hy
    exact ⟨y, hy, by rw [sumW_cons, sumW_nil]; omega⟩
  | @on c d l had hl ih =>
    intro ho y hy
    obtain ⟨z, hz, hle⟩ := ih (fun x hx => ho x (List.mem_cons_of_mem _ hx)) y hy
    obtain ⟨x, hx, hle2⟩ := h.le c d z had (ho c (by simp)) hz
    exact ⟨x, hx, by rw [sumW_cons]; omega⟩
end

theorem adj_symm (m : Map_) : ∀ x y, Adj m x y → Adj m y x := fun _ _ h => beside_symm h

/-- a step to a goal c: the next cell's cost is there, and home can be reached from it with what's left -/
theorem goal_safe {m : Map_} {a c d home t u left : Nat} {F Bh Bc : Nat → Option Nat} (hF : TabF m a F) (hB : TabB m home Bh) (hC : TabB m c Bc) (ht : F c = some t) (hu : Bh c = some u) (hle : t + u ≤ left)
    {x y : Nat} (hx : Bc a = some x) (hy : Bc d = some y) (e : x = m.of d + y) :
    m.of d ≤ left ∧ ∃ l, Chain (Adj m) home d l ∧ (∀ z ∈ l, Op m z) ∧ sumW m.of l ≤ left - m.of d + m.of d := by
  -- from c back to a, by the table from a on
  obtain ⟨l1, hl1, s1, _, o1⟩ := hF.cert.chain op_pos _ c (t + m.of a) (Nat.le_refl _) (by show (F c).map _ = _; rw [ht]; rfl)
  obtain ⟨z, hz, hz2⟩ := hC.cert.along (adj_symm m) hl1 (fun x hx => (o1 x hx).2.1) (m.of c) hC.cert.st
  have ez : x + m.of a = z := by
    have : (Bc a).map (· + m.of a) = some z := hz
    rw [hx] at this
    exact Option.some.inj this
  -- from d on to c, then home
  obtain ⟨l2, hl2, s2, _, o2⟩ := hC.cert.chain op_pos _ d (y + m.of d) (Nat.le_refl _) (by show (Bc d).map _ = _; rw [hy]; rfl)
  obtain ⟨v, hv, hv2⟩ := hB.cert.back hl2 (fun x hx => (o2 x hx).2.1) (u + m.of c) (by show (Bh c).map _ = _; rw [hu]; rfl)
  obtain ⟨l3, hl3, s3, _, o3⟩ := hB.cert.chain op_pos _ d v (Nat.le_refl _) hv
  exact ⟨by omega, l3, hl3, fun z hz => (o3 z hz).2.1, by omega⟩

/-- a step home -/
theorem home_safe {m : Map_} {a d home left : Nat} {B : Nat → Option Nat} (hB : TabB m home B) (hs : ∃ l, Chain (Adj m) home a l ∧ (∀ x ∈ l, Op m x) ∧ sumW m.of l ≤ left + m.of a)
    {x y : Nat} (hx : B a = some x) (hy : B d = some y) (e : x = m.of d + y) :
    m.of d ≤ left ∧ ∃ l, Chain (Adj m) home d l ∧ (∀ z ∈ l, Op m z) ∧ sumW m.of l ≤ left - m.of d + m.of d := by
  obtain ⟨l, hl, ho, hle⟩ := hs
  obtain ⟨t, ht, htl⟩ := hB.cert.upper hl ho
  have et : x + m.of a = t := by
    have : (B a).map (· + m.of a) = some t := ht
    rw [hx] at this
    exact Option.some.inj this
  obtain ⟨l3, hl3, s3, _, o3⟩ := hB.cert.chain op_pos _ d (y + m.of d) (Nat.le_refl _) (by show (B d).map _ = _; rw [hy]; rfl)
  exact ⟨by omega, l3, hl3, fun z hz => (o3 z hz).2.1, by omega⟩

theorem Chain.mono {adj adj' : Nat → Nat → Prop} {b c : Nat} {l : List Nat} (h : Chain adj b c l) (k : ∀ x y, adj x y → adj' x y) : Chain adj' b c l := by
  induction h with
  | here => exact .here
  | on ha _ ih => exact .on (k _ _ ha) ih
theorem sumW_congr {f g : Nat → Nat} : ∀ {l : List Nat}, (∀ x ∈ l, f x = g x) → sumW f l = sumW g l
  | [], _ => rfl
  | a :: l, h => by
    rw [sumW_cons, sumW_cons, h a (by simp), sumW_congr fun x hx => h x (List.mem_cons_of_mem _ hx)]
theorem Chain.first {adj : Nat → Nat → Prop} {b c : Nat} {l : List Nat} (h : Chain adj b c l) : c ∈ l := by cases h <;> simp

/-! ### goals -/
theorem leastPair_some : ∀ {l : List (Nat × Nat)} {p : Nat × Nat}, leastPair l = some p → p ∈ l ∧ ∀ q ∈ l, p.1 < q.1 ∨ (p.1 = q.1 ∧ p.2 ≤ q.2)
  | [], p, h => by cases h
  | a :: l, p, h => by
    unfold leastPair at h
    cases e : leastPair l with
    | none =>
      rw [e] at h
      have := Option.some.inj h
      subst this
      have hl : l = [] := by
        cases l with
        | nil => rfl
        | cons y r =>
          unfold leastPair at e
          cases e2 : leastPair r with
          | none => rw [e2] at e; cases e
          | some z => rw [e2] at e; dsimp only at e; split at e <;> cases e
      subst hl
      simp
    | some z =>
      rw [e] at h
      dsimp only at h
      have hz := leastPair_some e
      split at h
      next hc =>
        have := Option.some.inj h
        subst this
        refine ⟨by simp, fun q hq => ?_⟩
        rw [List.mem_cons] at hq
        rcases hq with rfl | hq
        · exact .inr ⟨rfl, Nat.le_refl _⟩
        · have := hz.2 q hq
          omega
      next hc =>
        have := Option.some.inj h
        subst this
        refine ⟨List.mem_cons_of_mem _ hz.1, fun q hq => ?_⟩
        rw [List.mem_cons] at hq
        rcases hq with rfl | hq
        · omega
        · exact hz.2 q hq
theorem leastPair_none {l : List (Nat × Nat)} (h : leastPair l = none) : l = [] := by
  cases l with
  | nil => rfl
  | cons a l =>
    unfold leastPair at h
    cases e : leastPair l with
    | none => rw [e] at h; cases h
    | some z => rw [e] at h; dsimp only at h; split at h <;> cases h

theorem mem_goals {r : Rover} {F B : Nat → Option Nat} {t c : Nat} : (t, c) ∈ goals r F B ↔ c < r.n ∧ F c = some t ∧ ∃ u, B c = some u ∧ r.free.open_ c = true ∧ c ∉ r.been ∧ t + u ≤ r.left := by
  unfold goals
  rw [List.mem_filterMap]
  constructor
  · rintro ⟨d, hd, h⟩
    rw [List.mem_range] at hd
    cases hF : F d with
    | none => rw [hF] at h; cases h
    | some t' =>
      cases hB : B d with
      | none => rw [hF, hB] at h; cases h
      | some u =>
        rw [hF, hB] at h
        dsimp only at h
        split at h
        next hc =>
          have := Option.some.inj h
          cases this
          exact ⟨hd, hF, u, hB, hc.1, by simpa using hc.2.1, hc.2.2⟩
        next => cases h
  · rintro ⟨hc, hF, u, hB, ho, hb, hl⟩
    refine ⟨c, List.mem_range.mpr hc, ?_⟩
    rw [hF, hB]
    dsimp only
    rw [if_pos ⟨ho, by simpa using hb, hl⟩]

/-! ### the rover stays well formed -/
theorem of_set {m : Map_} {c x d : Nat} (h : c < m.cost.length) : ({ m with cost := m.cost.set c x } : Map_).of d = if d = c then x else m.of d := by
  unfold Map_.of
  simp only [List.getD_eq_getElem?_getD, List.getElem?_set]
  by_cases e : c = d
  · subst e; simp [h]
  · rw [if_neg e, if_neg (fun q => e q.symm)]
theorem n_set {m : Map_} {l : List Nat} : ({ m with cost := l } : Map_).n = m.n := rfl

theorem free_of {r : Rover} {c : Nat} (h : Op r.free c) : r.free.of c = r.map.of c := without_of_open (without_open.mp h).2

theorem getD_rep (k c : Nat) : (List.replicate k 0).getD c 0 = 0 := by
  rw [List.getD_eq_getElem?_getD, List.getElem?_replicate]
  split <;> rfl
theorem startR_wf {w h p room : Nat} {g : List Nat} (ho : okStart w h p room = true) (hg : g.length = 256) (hk : ∀ x ∈ g, okCost x = true) : WF (startR w h p room) g := by
  unfold okStart okSize at ho
  simp only [Bool.and_eq_true, decide_eq_true_eq] at ho
  obtain ⟨⟨⟨⟨⟨a1, a2⟩, b1, b2⟩, c1⟩, d1⟩, d2⟩ := ho
  have hof : ∀ c, (startR w h p room).map.of c = 0 := fun c => by
    show (List.replicate Sr38.CELLS 0).getD c 0 = 0
    exact getD_rep _ c
  exact {
    w1 := a1, w2 := a2, h1 := b1, h2 := b2, hm := c1, pl := c1
    cl := List.length_replicate
    ck := fun c => .inl (hof c)
    gl := hg, gk := hk
    bn := by show [p].Nodup; simp
    bl := fun c hc => by
      have : c ∈ [p] := hc
      rw [List.mem_singleton] at this
      subst this
      exact c1
    bp := by show p ∈ [p]; simp
    al := fun c hc => by cases hc
    ah := fun hc => by cases hc
    sn := by show ([] : List Nat).Nodup; simp
    sm := fun c => ⟨fun hc => (by cases hc), fun hc => absurd (hof c) hc.2⟩
    hd := Nat.le_refl _
    od := by show 0 ≤ 65535; omega
    safe := fun hn => absurd rfl hn }

/-- a cell that isn't known is seen -/
theorem sees_wf {r : Rover} {g : List Nat} {c x : Nat} (W : WF r g) (hc : c < r.n) (hz : r.map.of c = 0) (hx : okCost x = true) : WF (r.sees c x) g := by
  have hlt : c < r.map.cost.length := by rw [W.cl]; have := W.n256; omega
  have hof : ∀ d, (r.sees c x).map.of d = if d = c then x else r.map.of d := fun d => of_set hlt
  have xn : x ≠ 0 := by have := okCost_iff.mp hx; omega
  have hfree : ∀ d, Op r.free d → Op (r.sees c x).free d ∧ (r.sees c x).free.of d = r.free.of d := fun d hd => by
    obtain ⟨h1, h2⟩ := without_open.mp hd
    obtain ⟨h3, h4, h5⟩ := open_lt h1
    have hne : d ≠ c := fun e => by subst e; omega
    have e : (r.sees c x).map.of d = r.map.of d := by rw [hof, if_neg hne]
    refine ⟨without_open.mpr ⟨?_, h2⟩, ?_⟩
    · unfold Map_.open_
      rw [e]
      simp only [Bool.and_eq_true, decide_eq_true_eq]
      exact ⟨⟨h3, h4⟩, h5⟩
    · show (without (r.sees c x).map r.avoid).of d = (without r.map r.avoid).of d
      rw [without_of_open h2, without_of_open h2]
      exact e
  exact {
    w1 := W.w1, w2 := W.w2, h1 := W.h1, h2 := W.h2, hm := W.hm, pl := W.pl
    cl := by show (r.map.cost.set c x).length = 256; rw [List.length_set]; exact W.cl
    ck := fun d => by
      rw [hof]
      split
      · exact .inr hx
      · exact W.ck d
    gl := W.gl, gk := W.gk, bn := W.bn, bl := W.bl, bp := W.bp, al := W.al, ah := W.ah
    sn := by
      show (r.saw ++ [c]).Nodup
      rw [List.nodup_append]
      refine ⟨W.sn, by simp, fun a ha d hd e => ?_⟩
      rw [List.mem_singleton] at hd
      subst hd
      subst e
      exact ((W.sm _).mp ha).2 hz
    sm := fun d => by
      show d ∈ r.saw ++ [c] ↔ d < r.n ∧ (r.sees c x).map.of d ≠ 0
      rw [List.mem_append, List.mem_singleton, hof, W.sm]
      constructor
      · rintro (⟨h1, h2⟩ | rfl)
        · refine ⟨h1, ?_⟩
          split
          · exact xn
          · exact h2
        · exact ⟨hc, by rw [if_pos rfl]; exact xn⟩
      · rintro ⟨h1, h2⟩
        by_cases e : d = c
        · exact .inr e
        · rw [if_neg e] at h2
          exact .inl ⟨h1, h2⟩
    hd := by show r.had ≤ (r.saw ++ [c]).length; rw [List.length_append]; have := W.hd; omega
    od := W.od
    safe := fun hn => by
      obtain ⟨l, hl, ho, hle⟩ := W.safe hn
      refine ⟨l, hl.mono fun a d h => h, fun z hz => (hfree z (ho z hz)).1, ?_⟩
      rw [sumW_congr fun z hz => (hfree z (ho z hz)).2]
      show _ ≤ r.left + (r.sees c x).free.of r.place
      rw [(hfree r.place (ho _ hl.first)).2]
      exact hle }

/-- it goes to a cell from which home can be reached -/
theorem goes_wf {r : Rover} {g : List Nat} {d : Nat} (W : WF r g) (hd : Op r.free d) (hs : ∃ l, Chain (Adj r.free) r.home d l ∧ (∀ z ∈ l, Op r.free z) ∧ sumW r.free.of l ≤ r.left - r.free.of d + r.free.of d) : WF (r.goes d) g := by
  have hdn : d < r.n := (open_lt (without_open.mp hd).1).1
  exact {
    w1 := W.w1, w2 := W.w2, h1 := W.h1, h2 := W.h2, hm := W.hm, pl := hdn, cl := W.cl, ck := W.ck, gl := W.gl, gk := W.gk
    bn := by
      show (if r.been.contains d then r.been else r.been ++ [d]).Nodup
      split
      · exact W.bn
      next hc =>
        rw [List.nodup_append]
        refine ⟨W.bn, by simp, fun a ha b hb e => ?_⟩
        rw [List.mem_singleton] at hb
        subst hb
        subst e
        exact hc (by simpa using ha)
    bl := fun c hc => by
      have : c ∈ (if r.been.contains d then r.been else r.been ++ [d]) := hc
      split at this
      · exact W.bl c this
      · rw [List.mem_append, List.mem_singleton] at this
        rcases this with h | rfl
        · exact W.bl c h
        · exact hdn
    bp := by
      show d ∈ (if r.been.contains d then r.been else r.been ++ [d])
      split
      next hc => simpa using hc
      · simp
    al := W.al, ah := W.ah, sn := W.sn, sm := W.sm, hd := W.hd, od := W.od
    safe := fun _ => by
      obtain ⟨l, hl, ho, hle⟩ := hs
      refine ⟨l, hl, ho, ?_⟩
      show sumW r.free.of l ≤ (r.left - r.map.of d) + r.free.of d
      rw [← free_of hd]
      exact hle }
end RvM
end
section
set_option Elab.async false
/-! A step, told by sums. -/
namespace RvM
open Sr37 (Map_ beside)
open Sr38 (Rover Ev Ans Msg okCost without messageOf bytesOf startR)
open Sr38Neutral (look checkB checkF secondOf backT forthT seesF canB restF stepR goals leastPair reckonR ground)

def opt (ss : Nat → Nat) (c : Nat) : Option Nat := if ss c = 0 then none else some (ss c)
theorem opt_some {ss : Nat → Nat} {c s : Nat} : opt ss c = some s ↔ ss c = s ∧ s ≠ 0 := by
  unfold opt
  split
  next h => exact ⟨fun q => (by cases q), fun q => absurd (q.1.symm.trans h) q.2⟩
  next h => exact ⟨fun q => (by cases q; exact ⟨rfl, h⟩), fun q => (by rw [q.1])⟩
theorem opt_none {ss : Nat → Nat} {c : Nat} : opt ss c = none ↔ ss c = 0 := by
  unfold opt
  split
  next h => exact ⟨fun _ => h, fun _ => rfl⟩
  next h => exact ⟨fun q => (by cases q), fun q => absurd q h⟩

/-- sums of the lightest ways from b on; 0: none -/
structure Sums (m : Map_) (b : Nat) (ss : Nat → Nat) : Prop where
  shut : weigh m b = 0 → ∀ c, ss c = 0
  opn : weigh m b ≠ 0 → SumCert m b (opt ss)

theorem Out.toSums {m : Map_} {b : Nat} {ss : Nat → Nat} (h : Out m.n (Adj m) (weigh m) b ss []) : Sums m b ss :=
  ⟨fun e => absurd e h.st.2, fun _ => h.sums⟩

/-- the second cell of the way, by sums -/
structure Second (m : Map_) (ss : Nat → Nat) (a d : Nat) : Prop where
  ad : Adj m a d
  eq : ss d + weigh m a = ss a
  lt : ∀ e, Adj m a e → ss e + weigh m a = ss a → d ≤ e

theorem second_of {m : Map_} {a b d : Nat} {ss : Nat → Nat} (hn : m.n ≤ 256) (hS : Sums m b ss) (h : secondOf m a b = some d) :
    Second m ss a d ∧ Op m a ∧ Op m d ∧ TabB m b (look m (backT m b)) ∧ ∃ x y, look m (backT m b) a = some x ∧ look m (backT m b) d = some y ∧ x = m.of d + y := by
  have hb : weigh m b ≠ 0 := by
    unfold secondOf at h
    simp only at h
    split at h
    next hB =>
      have TB := tabB (fun c x => look_lt) hB
      exact weigh_ne.mpr (TB.told b 0 TB.st).1
    next => cases h
  obtain ⟨sa, sd, hab, h1, h2, h3, h4, h5, TB, x, y, hx, hy, e⟩ := second_by_sums hn (hS.opn hb) h
  have oa := (TB.told a x hx).1
  have od := (TB.told d y hy).1
  have ea : weigh m a = heavy m.of a := by unfold weigh; rw [if_pos oa]
  obtain ⟨e1, z1⟩ := opt_some.mp h1
  obtain ⟨e3, z3⟩ := opt_some.mp h3
  refine ⟨⟨h2, by rw [ea]; omega, fun c hc hs => ?_⟩, oa, od, TB, x, y, hx, hy, e⟩
  rw [ea] at hs
  by_cases hz : ss c = 0
  · -- then a's sum is its own weight alone, and a is b
    exfalso
    rcases (hS.opn hb).fr a sa h1 with ⟨q, _⟩ | ⟨p, v, _, hv, ev⟩
    · exact hab q
    · have := (opt_some.mp hv).2
      omega
  · exact h5 c (ss c) hc (opt_some.mpr ⟨rfl, hz⟩) (by omega)

/-! ### goals by sums -/
/-- what a way takes, as the program reckons it -/
def takenI (whole first : Nat) : Int := ((whole : Int) - (first : Int)) / 1024
structure Cand (r : Rover) (ps hs : Nat → Nat) (c : Nat) : Prop where
  nb : c ∉ r.been
  p0 : ps c ≠ 0
  h0 : hs c ≠ 0
  le : takenI (ps c) (weigh r.free r.place) + takenI (hs c) (weigh r.free c) ≤ r.left
def thereI (r : Rover) (ps : Nat → Nat) (c : Nat) : Int := takenI (ps c) (weigh r.free r.place)
/-- the best among the first k cells -/
def BestOf (r : Rover) (ps hs : Nat → Nat) (k : Nat) : Option Nat → Prop
  | none => ∀ c, c < k → ¬ Cand r ps hs c
  | some c => c < k ∧ Cand r ps hs c ∧ ∀ d, d < k → Cand r ps hs d → thereI r ps c < thereI r ps d ∨ (thereI r ps c = thereI r ps d ∧ c ≤ d)

theorem BestOf.start {r : Rover} {ps hs : Nat → Nat} : BestOf r ps hs 0 none := fun _ h => absurd h (Nat.not_lt_zero _)
theorem BestOf.skip {r : Rover} {ps hs : Nat → Nat} {k : Nat} {o : Option Nat} (h : BestOf r ps hs k o) (hn : ¬ Cand r ps hs k) : BestOf r ps hs (k + 1) o := by
  cases o with
  | none =>
    intro c hc
    by_cases e : c = k
    · subst e; exact hn
    · exact h c (by omega)
  | some b =>
    obtain ⟨h1, h2, h3⟩ := h
    refine ⟨by omega, h2, fun d hd hc => ?_⟩
    by_cases e : d = k
    · subst e; exact absurd hc hn
    · exact h3 d (by omega) hc
theorem BestOf.keep {r : Rover} {ps hs : Nat → Nat} {k b : Nat} (h : BestOf r ps hs k (some b)) (hn : ¬ thereI r ps k < thereI r ps b) : BestOf r ps hs (k + 1) (some b) := by
  obtain ⟨h1, h2, h3⟩ := h
  refine ⟨by omega, h2, fun d hd hc => ?_⟩
  by_cases e : d = k
  · subst e; omega
  · exact h3 d (by omega) hc
theorem BestOf.take {r : Rover} {ps hs : Nat → Nat} {k : Nat} {o : Option Nat} (h : BestOf r ps hs k o) (hc : Cand r ps hs k) (hl : ∀ b, o = some b → thereI r ps k < thereI r ps b) : BestOf r ps hs (k + 1) (some k) := by
  refine ⟨by omega, hc, fun d hd hcd => ?_⟩
  by_cases e : d = k
  · subst e; exact .inr ⟨rfl, Nat.le_refl _⟩
  · cases o with
    | none => exact absurd hcd (h d (by omega))
    | some b =>
      have h1 := hl b rfl
      have h2 := h.2.2 d (by omega) hcd
      omega

section
variable {r : Rover} {F B : Nat → Option Nat} {ps hs : Nat → Nat}
theorem cand_goal (hn : r.n ≤ 256) (hF : TabF r.free r.place F) (hB : TabB r.free r.home B) (hp : Sums r.free r.place ps) (hh : Sums r.free r.home hs) {c t : Nat} (h : (t, c) ∈ goals r F B) : Cand r ps hs c ∧ thereI r ps c = t := by
  obtain ⟨hc, ht, u, hu, ho, hb, hle⟩ := mem_goals.mp h
  have op := (hF.told _ _ hF.st).1
  have oh := (hB.told _ _ hB.st).1
  rcases forth_at (m := r.free) hn hF (hp.opn (weigh_ne.mpr op)) c with ⟨e, _⟩ | ⟨x, k, hx, hs1, k1, k2⟩
  · rw [ht] at e; cases e
  rcases back_at (m := r.free) hn hB (hh.opn (weigh_ne.mpr oh)) c with ⟨e, _⟩ | ⟨y, j, hy, hs2, j1, j2⟩
  · rw [hu] at e; cases e
  rw [ht] at hx
  rw [hu] at hy
  cases hx
  cases hy
  obtain ⟨e1, _⟩ := opt_some.mp hs1
  obtain ⟨e2, _⟩ := opt_some.mp hs2
  have w1 : weigh r.free r.place = 1024 * r.free.of r.place + 1 := by unfold weigh heavy; rw [if_pos op]
  have w2 : weigh r.free c = 1024 * r.free.of c + 1 := by unfold weigh heavy; rw [if_pos ho]
  have t1 : thereI r ps c = t := by
    unfold thereI takenI
    rw [e1, w1]
    omega
  refine ⟨⟨hb, by omega, by omega, ?_⟩, t1⟩
  have t2 : takenI (hs c) (weigh r.free c) = u := by
    unfold takenI
    rw [e2, w2]
    omega
  have t3 : takenI (ps c) (weigh r.free r.place) = t := t1
  rw [t2, t3]
  omega

theorem goal_cand (hn : r.n ≤ 256) (hF : TabF r.free r.place F) (hB : TabB r.free r.home B) (hp : Sums r.free r.place ps) (hh : Sums r.free r.home hs) {c : Nat} (hc : Cand r ps hs c) : ∃ t, (t, c) ∈ goals r F B := by
  have op := (hF.told _ _ hF.st).1
  have oh := (hB.told _ _ hB.st).1
  rcases forth_at (m := r.free) hn hF (hp.opn (weigh_ne.mpr op)) c with ⟨_, e⟩ | ⟨x, k, hx, hs1, k1, k2⟩
  · exact absurd (opt_none.mp e) hc.p0
  rcases back_at (m := r.free) hn hB (hh.opn (weigh_ne.mpr oh)) c with ⟨_, e⟩ | ⟨y, j, hy, hs2, j1, j2⟩
  · exact absurd (opt_none.mp e) hc.h0
  obtain ⟨e1, _⟩ := opt_some.mp hs1
  obtain ⟨e2, _⟩ := opt_some.mp hs2
  have ho := (hB.told c y hy).1
  have w1 : weigh r.free r.place = 1024 * r.free.of r.place + 1 := by unfold weigh heavy; rw [if_pos op]
  have w2 : weigh r.free c = 1024 * r.free.of c + 1 := by unfold weigh heavy; rw [if_pos ho]
  have hle := hc.le
  unfold takenI at hle
  rw [e1, w1, e2, w2] at hle
  exact ⟨x, mem_goals.mpr ⟨(open_lt ho).1, hx, y, hy, ho, hc.nb, by omega⟩⟩

theorem best_some (hn : r.n ≤ 256) (hF : TabF r.free r.place F) (hB : TabB r.free r.home B) (hp : Sums r.free r.place ps) (hh : Sums r.free r.home hs) {c : Nat} (hb : BestOf r ps hs r.n (some c)) : ∃ t, leastPair (goals r F B) = some (t, c) := by
  obtain ⟨h1, h2, h3⟩ := hb
  obtain ⟨t, ht⟩ := goal_cand hn hF hB hp hh h2
  have et := (cand_goal hn hF hB hp hh ht).2
  cases e : leastPair (goals r F B) with
  | none => rw [leastPair_none e] at ht; cases ht
  | some q =>
    obtain ⟨q1, q2⟩ := leastPair_some e
    have q3 := q2 (t, c) ht
    obtain ⟨u, d⟩ := q
    obtain ⟨hd, eu⟩ := cand_goal hn hF hB hp hh q1
    have hdn := (mem_goals.mp q1).1
    have h4 := h3 d hdn hd
    rw [et, eu] at h4
    dsimp only at q3
    have e1 : t = u := by omega
    have e2 : c = d := by omega
    subst e1 e2
    exact ⟨t, rfl⟩
theorem best_none (hn : r.n ≤ 256) (hF : TabF r.free r.place F) (hB : TabB r.free r.home B) (hp : Sums r.free r.place ps) (hh : Sums r.free r.home hs) (hb : BestOf r ps hs r.n none) : leastPair (goals r F B) = none := by
  cases e : leastPair (goals r F B) with
  | none => rfl
  | some q =>
    obtain ⟨q1, _⟩ := leastPair_some e
    obtain ⟨u, d⟩ := q
    exact absurd (cand_goal hn hF hB hp hh q1).1 (hb d (mem_goals.mp q1).1)
theorem best_shut (hp : Sums r.free r.place ps) (hh : Sums r.free r.home hs) (ho : ¬ (r.free.open_ r.place = true ∧ r.free.open_ r.home = true)) {c : Nat} : ¬ Cand r ps hs c := by
  intro hc
  by_cases o1 : r.free.open_ r.place = true
  · have o2 : ¬ r.free.open_ r.home = true := fun q => ho ⟨o1, q⟩
    exact hc.h0 (hh.shut (Classical.byContradiction fun q => o2 (weigh_ne.mp q)) c)
  · exact hc.p0 (hp.shut (Classical.byContradiction fun q => o1 (weigh_ne.mp q)) c)
end

/-- where there's no goal -/
theorem rest_cases {r r' : Rover} {g : List Nat} {hs : Nat → Nat} {evs : List Ev} {ans : Ans} (W : WF r g) (hh : Sums r.free r.home hs) (h : restF r = some (evs, r', ans)) :
    (r.place ≠ r.home ∧ ∃ d, Second r.free hs r.place d ∧ d < r.n ∧ r.map.of d ≤ r.left ∧ evs = [.go d] ∧ r' = r.goes d ∧ ans = .num 3 ∧ WF r' g) ∨
    (r.place = r.home ∧ r.left < r.room ∧ evs = [.charge] ∧ r' = { r with left := r.room } ∧ ans = .num 4 ∧ WF r' g) ∨
    (r.place = r.home ∧ ¬ r.left < r.room ∧ evs = [] ∧ r' = r ∧ ans = .num 0 ∧ WF r' g) := by
  unfold restF at h
  split at h
  next hp =>
    right
    split at h
    next hl =>
      left
      cases h
      exact ⟨hp, hl, rfl, rfl, rfl, { W with safe := fun q => absurd hp q }⟩
    next hl =>
      right
      cases h
      exact ⟨hp, hl, rfl, rfl, rfl, W⟩
  next hp =>
    left
    refine ⟨hp, ?_⟩
    cases e : secondOf r.free r.place r.home with
    | none => rw [e] at h; cases h
    | some d =>
      rw [e] at h
      cases h
      obtain ⟨h1, oa, od, TB, x, y, hx, hy, exy⟩ := second_of (m := r.free) W.n256 hh e
      obtain ⟨h2, h3⟩ := home_safe TB (W.safe hp) hx hy exy
      refine ⟨d, h1, (open_lt od).1, ?_, rfl, rfl, rfl, goes_wf W od h3⟩
      rw [← free_of od]
      exact h2

/-- where nothing is to be seen -/
theorem step_cases {r r' : Rover} {g : List Nat} {ps hs : Nat → Nat} {evs : List Ev} {ans : Ans} {best : Option Nat} (W : WF r g) (hu : r.unseen = []) (h : stepR (ground g) r = some (evs, r', ans))
    (hp : Sums r.free r.place ps) (hh : Sums r.free r.home hs) (hb : BestOf r ps hs r.n best) :
    (∃ c, best = some c ∧ ∀ gs, Sums r.free c gs → ∃ d, Second r.free gs r.place d ∧ d < r.n ∧ r.map.of d ≤ r.left ∧ evs = [.go d] ∧ r' = r.goes d ∧ ans = .num 2 ∧ WF r' g) ∨
    (best = none ∧ r.place ≠ r.home ∧ ∃ d, Second r.free hs r.place d ∧ d < r.n ∧ r.map.of d ≤ r.left ∧ evs = [.go d] ∧ r' = r.goes d ∧ ans = .num 3 ∧ WF r' g) ∨
    (best = none ∧ r.place = r.home ∧ r.left < r.room ∧ evs = [.charge] ∧ r' = { r with left := r.room } ∧ ans = .num 4 ∧ WF r' g) ∨
    (best = none ∧ r.place = r.home ∧ ¬ r.left < r.room ∧ evs = [] ∧ r' = r ∧ ans = .num 0 ∧ WF r' g) := by
  unfold stepR at h
  rw [if_neg (fun q => q hu)] at h
  split at h
  next ho =>
    simp only at h
    split at h
    next hc =>
      have TF := tabF (fun c x => look_lt) hc.1
      have TB := tabB (fun c x => look_lt) hc.2
      cases best with
      | some c =>
        left
        refine ⟨c, rfl, fun gs hg => ?_⟩
        obtain ⟨t, ht⟩ := best_some W.n256 TF TB hp hh hb
        rw [ht] at h
        dsimp only at h
        obtain ⟨q1, _⟩ := leastPair_some ht
        obtain ⟨hcn, hFc, u, hBc, hoc, _, hle⟩ := mem_goals.mp q1
        cases e : secondOf r.free r.place c with
        | none => rw [e] at h; cases h
        | some d =>
          rw [e] at h
          cases h
          obtain ⟨h1, oa, od, TC, x, y, hx, hy, exy⟩ := second_of (m := r.free) W.n256 hg e
          obtain ⟨h2, h3⟩ := goal_safe TF TB TC hFc hBc hle hx hy exy
          refine ⟨d, h1, (open_lt od).1, ?_, rfl, rfl, rfl, goes_wf W od h3⟩
          rw [← free_of od]
          exact h2
      | none =>
        right
        rw [best_none W.n256 TF TB hp hh hb] at h
        dsimp only at h
        rcases rest_cases W hh h with h | h | h
        · exact .inl ⟨rfl, h⟩
        · exact .inr (.inl ⟨rfl, h⟩)
        · exact .inr (.inr ⟨rfl, h⟩)
    next => cases h
  next ho =>
    cases best with
    | some c => exact absurd hb.2.1 (best_shut hp hh ho)
    | none =>
      right
      rcases rest_cases W hh h with h | h | h
      · exact .inl ⟨rfl, h⟩
      · exact .inr (.inl ⟨rfl, h⟩)
      · exact .inr (.inr ⟨rfl, h⟩)

/-! ### what's seen -/
theorem ground_at {g : List Nat} {c : Nat} (h : c < g.length) : ground g c = g.getD c 0 := by
  unfold ground
  simp [List.getD_eq_getElem?_getD, h]
theorem unseen_mem {r : Rover} {c : Nat} : c ∈ r.unseen ↔ c < r.n ∧ r.map.of c = 0 ∧ (c = r.home ∨ Adj r.map r.place c) := by
  unfold Rover.unseen
  rw [List.mem_filter, List.mem_range]
  simp [Adj, Rover.n]
theorem seesF_wf {g : List Nat} : ∀ {l : List Nat} {r : Rover}, WF r g → l.Nodup → (∀ c ∈ l, c < r.n ∧ r.map.of c = 0) → WF (seesF (ground g) r l).2 g
  | [], r, W, _, _ => W
  | c :: k, r, W, hn, hz => by
    unfold seesF
    have hc := hz c (by simp)
    have hlt : c < r.map.cost.length := by rw [W.cl]; have := W.n256; omega
    have hgk : okCost (ground g c) = true := by
      have hl : c < g.length := by rw [W.gl]; have := W.n256; omega
      have e : ground g c = g[c] := by
        unfold ground
        simp [List.getD_eq_getElem?_getD, hl]
      rw [e]
      exact W.gk _ (List.getElem_mem hl)
    rw [List.nodup_cons] at hn
    refine seesF_wf (sees_wf W hc.1 hc.2 hgk) hn.2 fun d hd => ?_
    obtain ⟨h1, h2⟩ := hz d (List.mem_cons_of_mem _ hd)
    refine ⟨h1, ?_⟩
    show ({ r.map with cost := r.map.cost.set c (ground g c) } : Map_).of d = 0
    rw [of_set hlt, if_neg (fun e : d = c => hn.1 (e ▸ hd))]
    exact h2
theorem seesF_snoc {g : Nat → Nat} : ∀ {l : List Nat} {r : Rover} {c : Nat}, seesF g r (l ++ [c]) =
    ((seesF g r l).1 ++ (Ev.see c (g c) :: (if (seesF g r l).2.saw.length = (seesF g r l).2.had then ((seesF g r l).2.sees c (g c)).tells else [])), (seesF g r l).2.sees c (g c))
  | [], r, c => by
    simp only [List.nil_append, seesF, List.append_nil]
    rfl
  | a :: l, r, c => by
    have ih := seesF_snoc (g := g) (l := l) (r := r.sees a (g a)) (c := c)
    simp only [List.cons_append, seesF, ih, List.append_assoc]
    rfl
theorem step_sees {r : Rover} {g : List Nat} (W : WF r g) (hu : r.unseen ≠ []) : stepR (ground g) r = some ((seesF (ground g) r r.unseen).1, (seesF (ground g) r r.unseen).2, .num 1) ∧ WF (seesF (ground g) r r.unseen).2 g := by
  refine ⟨by unfold stepR; rw [if_pos hu], seesF_wf W ?_ fun c hc => ?_⟩
  · unfold Rover.unseen
    exact List.nodup_range.filter _
  · obtain ⟨h1, h2, _⟩ := unseen_mem.mp hc
    exact ⟨h1, h2⟩

/-! ### a keep out -/
theorem can_by_sums {r : Rover} {g : List Nat} {c : Nat} {y : Bool} {hs : Nat → Nat} (W : WF r g) (h : canB r c = some y) (h1 : c ≠ r.home) (h2 : c ≠ r.place) (hS : Sums (without r.map (c :: r.avoid)) r.home hs) :
    (hs r.place = 0 → y = false) ∧ (hs r.place ≠ 0 → y = decide (takenI (hs r.place) (weigh (without r.map (c :: r.avoid)) r.place) ≤ r.left)) := by
  unfold canB at h
  split at h
  next hc =>
    have hz : r.map.of r.home = 0 := by
      rcases hc with q | q | q
      · exact q
      · exact absurd q h1
      · exact absurd q h2
    cases h
    have : weigh (without r.map (c :: r.avoid)) r.home = 0 := Classical.byContradiction fun q => by
      have := (open_lt (without_open.mp (weigh_ne.mp q)).1).2.1
      omega
    have z := hS.shut this r.place
    exact ⟨fun _ => rfl, fun q => absurd z q⟩
  next =>
    simp only at h
    split at h
    next ho =>
      cases h
      have z := hS.shut (Classical.byContradiction fun q => by rw [weigh_ne.mp q] at ho; cases ho) r.place
      exact ⟨fun _ => rfl, fun q => absurd z q⟩
    next ho =>
      split at h
      next hB =>
        have TB := tabB (fun c x => look_lt) hB
        have oh := (TB.told _ _ TB.st).1
        have n256 : (without r.map (c :: r.avoid)).n ≤ 256 := W.n256
        rcases back_at n256 TB (hS.opn (weigh_ne.mpr oh)) r.place with ⟨e1, e2⟩ | ⟨x, k, e1, e2, k1, k2⟩
        · simp only [e1] at h
          cases h
          have := opt_none.mp e2
          exact ⟨fun _ => rfl, fun q => absurd this q⟩
        · simp only [e1] at h
          cases h
          obtain ⟨e3, z3⟩ := opt_some.mp e2
          refine ⟨fun q => by omega, fun _ => ?_⟩
          have op := (TB.told _ _ e1).1
          have w1 : weigh (without r.map (c :: r.avoid)) r.place = 1024 * (without r.map (c :: r.avoid)).of r.place + 1 := by unfold weigh heavy; rw [if_pos op]
          have : takenI (hs r.place) (weigh (without r.map (c :: r.avoid)) r.place) = x := by
            unfold takenI
            rw [e3, w1]
            omega
          rw [this]
          simp
      next => cases h

theorem out_wf {r : Rover} {g : List Nat} {c k : Nat} {y : Bool} (W : WF r g) (hc : c < r.n) (h : canB r c = some y) (hk : k ≤ 65535) : WF { r with order := k, yes := y, avoid := if y then c :: r.avoid else r.avoid } g := by
  cases y with
  | false => exact { W with od := hk }
  | true =>
    unfold canB at h
    split at h
    next => cases h
    next hcc =>
      simp only at h
      split at h
      next => cases h
      next ho =>
        split at h
        next hB =>
          have TB := tabB (fun c x => look_lt) hB
          have hne : c ≠ r.home := fun q => hcc (.inr (.inl q))
          refine { W with od := hk, al := ?_, ah := ?_, safe := ?_ }
          · intro d hd
            have : d ∈ c :: r.avoid := hd
            rw [List.mem_cons] at this
            rcases this with rfl | hd
            · exact hc
            · exact W.al d hd
          · intro hd
            have : r.home ∈ c :: r.avoid := hd
            rw [List.mem_cons] at this
            rcases this with e | hd
            · exact hne e.symm
            · exact W.ah hd
          · intro _
            cases e1 : look (without r.map (c :: r.avoid)) (backT (without r.map (c :: r.avoid)) r.home) r.place with
            | none => simp [e1] at h
            | some t =>
              have hle : t ≤ r.left := by simpa [e1] using h
              obtain ⟨l, hl, s, _, o⟩ := TB.cert.chain op_pos _ r.place (t + (without r.map (c :: r.avoid)).of r.place) (Nat.le_refl _) (by show (look _ _ _).map _ = _; rw [e1]; rfl)
              refine ⟨l, hl, fun x hx => (o x hx).2.1, ?_⟩
              show sumW (without r.map (c :: r.avoid)).of l ≤ r.left + (without r.map (c :: r.avoid)).of r.place
              omega
        next => cases h
end RvM
end
section
set_option Elab.async false
/-! Neighbours by places; what's unseen, by a rising row; messages; the one list of calls. -/
namespace RvM
open Sr37 (Map_ beside)
open Sr38 (Rover Ev Ans Msg okCost without messageOf bytesOf)

/-! ### neighbours -/
def nbs (w h c : Nat) : List Nat := (if w ≤ c then [c - w] else []) ++ (if 0 < c % w then [c - 1] else []) ++ (if c % w + 1 < w then [c + 1] else []) ++ (if c + w < w * h then [c + w] else [])

theorem div_mod_of {w q r : Nat} (h : r < w) : (w * q + r) / w = q ∧ (w * q + r) % w = r := by
  have hw : 0 < w := by omega
  constructor
  · rw [Nat.mul_add_div hw, Nat.div_eq_of_lt h, Nat.add_zero]
  · rw [Nat.mul_add_mod, Nat.mod_eq_of_lt h]

theorem mem_nbs {w h c d : Nat} (hw : 1 ≤ w) (hc : c < w * h) : d ∈ nbs w h c ↔ beside w (w * h) c d = true := by
  rw [beside_iff]
  have hmem : d ∈ nbs w h c ↔ (w ≤ c ∧ d = c - w) ∨ (0 < c % w ∧ d = c - 1) ∨ (c % w + 1 < w ∧ d = c + 1) ∨ (c + w < w * h ∧ d = c + w) := by
    unfold nbs
    simp only [List.mem_append]
    have key : ∀ (p : Prop) [Decidable p] (y : Nat), d ∈ (if p then [y] else []) ↔ p ∧ d = y := by
      intro p _ y
      split <;> simp_all
    rw [key, key, key, key, or_assoc, or_assoc]
  rw [hmem]
  have ec := Nat.div_add_mod c w
  have lc := Nat.mod_lt c (show w > 0 by omega)
  constructor
  · rintro (⟨h1, rfl⟩ | ⟨h1, rfl⟩ | ⟨h1, rfl⟩ | ⟨h1, rfl⟩)
    · have e : c = (c - w) + w := by omega
      refine ⟨hc, by omega, .inl ⟨?_, .inl ?_⟩⟩
      · rw [e, Nat.add_mod_right, Nat.add_sub_cancel]
      · rw [e, Nat.add_div_right _ (by omega), Nat.add_sub_cancel]
    · have e : c - 1 = w * (c / w) + (c % w - 1) := by omega
      obtain ⟨d1, d2⟩ := div_mod_of (w := w) (q := c / w) (r := c % w - 1) (by omega)
      rw [e]
      refine ⟨hc, by omega, .inr ⟨d1.symm, .inl (by rw [d2]; omega)⟩⟩
    · have e : c + 1 = w * (c / w) + (c % w + 1) := by omega
      obtain ⟨d1, d2⟩ := div_mod_of (w := w) (q := c / w) (r := c % w + 1) h1
      refine ⟨hc, ?_, ?_⟩
      · -- the row's last cell isn't behind the map's end
        have hq : c / w < h := by
          rw [Nat.div_lt_iff_lt_mul (by omega)]
          rw [Nat.mul_comm]
          exact hc
        have := Nat.mul_le_mul_left w (show c / w + 1 ≤ h by omega)
        rw [Nat.mul_add] at this
        omega
      · rw [e]
        exact .inr ⟨d1.symm, .inr (by rw [d2])⟩
    · refine ⟨hc, h1, .inl ⟨?_, .inr ?_⟩⟩
      · rw [Nat.add_mod_right]
      · rw [Nat.add_div_right _ (by omega)]
  · rintro ⟨_, hd, ⟨e, f | f⟩ | ⟨e, f | f⟩⟩
    · have := div_mod_next e f
      exact .inl ⟨by omega, by omega⟩
    · have := div_mod_next e.symm f
      exact .inr (.inr (.inr ⟨by omega, by omega⟩))
    · have := div_mod_side e f
      exact .inr (.inl ⟨by omega, by omega⟩)
    · have := div_mod_side e.symm f
      have ld := Nat.mod_lt d (show w > 0 by omega)
      exact .inr (.inr (.inl ⟨by omega, by omega⟩))

theorem nbs_len (w h c : Nat) : (nbs w h c).length ≤ 4 := by
  unfold nbs
  simp only [List.length_append]
  have key : ∀ (p : Prop) [Decidable p] (y : Nat), (if p then [y] else []).length ≤ 1 := by
    intro p _ y
    split <;> simp
  have h1 := key (w ≤ c) (c - w)
  have h2 := key (0 < c % w) (c - 1)
  have h3 := key (c % w + 1 < w) (c + 1)
  have h4 := key (c + w < w * h) (c + w)
  omega

/-! ### rising rows -/
theorem rising_ext : ∀ {l r : List Nat}, l.Pairwise (· < ·) → r.Pairwise (· < ·) → (∀ x, x ∈ l ↔ x ∈ r) → l = r
  | [], [], _, _, _ => rfl
  | [], b :: r, _, _, h => by have := (h b).mpr (by simp); cases this
  | a :: l, [], _, _, h => by have := (h a).mp (by simp); cases this
  | a :: l, b :: r, hl, hr, h => by
    rw [List.pairwise_cons] at hl hr
    have e : a = b := by
      have h1 := (h a).mp (by simp)
      have h2 := (h b).mpr (by simp)
      rw [List.mem_cons] at h1 h2
      rcases h1 with h1 | h1
      · exact h1
      · rcases h2 with h2 | h2
        · exact h2.symm
        · have := hr.1 a h1
          have := hl.1 b h2
          omega
    subst e
    congr 1
    refine rising_ext hl.2 hr.2 fun x => ?_
    have hx := h x
    rw [List.mem_cons, List.mem_cons] at hx
    constructor
    · intro hm
      have := hl.1 x hm
      rcases hx.mp (.inr hm) with e | hr2
      · omega
      · exact hr2
    · intro hm
      have := hr.1 x hm
      rcases hx.mpr (.inr hm) with e | hl2
      · omega
      · exact hl2

theorem unseen_eq {r : Rover} {g : List Nat} {l : List Nat} (W : WF r g) (hs : l.Pairwise (· < ·)) (hm : ∀ c, c ∈ l ↔ c ∈ nbs r.map.w r.map.h r.place ∨ c = r.home) : l.filter (fun c => r.map.of c == 0) = r.unseen := by
  refine rising_ext (hs.filter _) ?_ fun x => ?_
  · unfold Rover.unseen
    exact List.pairwise_lt_range.filter _
  · rw [List.mem_filter, hm, unseen_mem, mem_nbs W.w1 W.pl]
    simp only [beq_iff_eq]
    constructor
    · rintro ⟨h | h, e⟩
      · exact ⟨(beside_iff.mp h).2.1, e, .inr h⟩
      · subst h
        exact ⟨W.hm, e, .inl rfl⟩
    · rintro ⟨h1, h2, h3 | h3⟩
      · exact ⟨.inr h3, h2⟩
      · exact ⟨.inl h3, h2⟩

/-! ### messages -/
def numOf (b : List Nat) : Nat := b.getD 2 0 + 256 * b.getD 3 0
def framed (b : List Nat) (kind : Nat) : Bool := b.length == 8 && b.getD 0 0 == kind && numOf b != 0 && b.getD 1 0 == 0 && b.getD 6 0 == 0 && b.getD 7 0 == 0
def isOut (n : Nat) (b : List Nat) : Bool := framed b 1 && decide (b.getD 4 0 < n) && b.getD 5 0 == 0
def isHad (b : List Nat) : Bool := framed b 2 && b.getD 4 0 == 0 && b.getD 5 0 == 0
def isSeen (n : Nat) (b : List Nat) : Bool := framed b 3 && decide (b.getD 4 0 < n) && okCost (b.getD 5 0)
def isAns (b : List Nat) : Bool := framed b 4 && decide (b.getD 4 0 ≤ 1) && b.getD 5 0 == 0

theorem eight_cases {b : List Nat} (h : b.length = 8) : ∃ b0 b1 b2 b3 b4 b5 b6 b7, b = [b0, b1, b2, b3, b4, b5, b6, b7] := by
  match b, h with
  | [b0, b1, b2, b3, b4, b5, b6, b7], _ => exact ⟨_, _, _, _, _, _, _, _, rfl⟩

theorem message_of {n : Nat} {b : List Nat} : messageOf n b = if isOut n b = true then some (.out (numOf b) (b.getD 4 0)) else if isHad b = true then some (.had (numOf b))
    else if isSeen n b = true then some (.seen (numOf b) (b.getD 4 0) (b.getD 5 0)) else if isAns b = true then some (.answer (numOf b) (b.getD 4 0 == 1)) else none := by
  by_cases h : b.length = 8
  · obtain ⟨b0, b1, b2, b3, b4, b5, b6, b7, rfl⟩ := eight_cases h
    unfold messageOf isOut isHad isSeen isAns framed numOf
    simp only [List.getD_cons_zero, List.getD_cons_succ, List.length_cons, List.length_nil, List.head?_cons, List.drop_succ_cons, List.drop_zero, Option.some.injEq, List.cons.injEq, and_true,
      Bool.and_eq_true, beq_iff_eq, bne_iff_ne, decide_eq_true_eq, ne_eq, not_true_eq_false, false_or]
    generalize b2 + 256 * b3 = k
    by_cases hk : k = 0
    · simp [hk]
    · by_cases h1 : b1 = 0
      · by_cases h6 : b6 = 0
        · by_cases h7 : b7 = 0
          · simp [hk, h1, h6, h7, and_assoc]
          · simp [h1, h6, h7]
        · simp [h1, h6]
      · simp [h1]
  · unfold messageOf isOut isHad isSeen isAns framed
    simp [h]

/-! ### the one list -/
theorem whole_id (c : List (List Int)) : PySr38.whole c = c := by
  unfold PySr38.whole
  split <;> rfl
theorem whole_map (cs : List (List (List Int))) : cs.map PySr38.whole = cs := by
  have : PySr38.whole = id := funext whole_id
  rw [this, List.map_id]

theorem calls_cons {shape : Int → Option (Nat × Nat)} {f : Nat} {p : Int} {r : List Int} {cs : List (List (List Int))} (h : PyFlat.calls shape f (p :: r) = some cs) :
    ∃ f' c t cs', f = f' + 1 ∧ PyFlat.call shape (p :: r) = some (c, t) ∧ PyFlat.calls shape f' t = some cs' ∧ cs = c :: cs' := by
  cases f with
  | zero => unfold PyFlat.calls at h; cases h
  | succ f =>
    unfold PyFlat.calls at h
    cases e : PyFlat.call shape (p :: r) with
    | none => rw [e] at h; cases h
    | some ct =>
      obtain ⟨c, t⟩ := ct
      rw [e] at h
      dsimp only at h
      cases e2 : PyFlat.calls shape f t with
      | none => rw [e2] at h; cases h
      | some cs' =>
        rw [e2] at h
        exact ⟨f, c, t, cs', rfl, rfl, e2, (Option.some.inj h).symm⟩
theorem calls_nil {shape : Int → Option (Nat × Nat)} {f : Nat} {cs : List (List (List Int))} (h : PyFlat.calls shape f [] = some cs) : cs = [] := by
  unfold PyFlat.calls at h
  cases f <;> exact (Option.some.inj h).symm

theorem rows_one (l : List Int) : PyFlat.rows 1 l = match l with
    | [] => none
    | k :: r => if 0 ≤ k ∧ k.toNat ≤ r.length then some ([r.take k.toNat], r.drop k.toNat) else none := by
  cases l with
  | nil => rfl
  | cons k r =>
    by_cases h : 0 ≤ k ∧ k.toNat ≤ r.length
    · simp only [PyFlat.rows, PyFlat.row]
      rw [if_pos h, if_pos h]
    · simp only [PyFlat.rows, PyFlat.row]
      rw [if_neg h, if_neg h]
/-- a call without a row -/
theorem call_plain {shape : Int → Option (Nat × Nat)} {p : Int} {r : List Int} {c : List (List Int)} {t : List Int} {n : Nat} (hs : shape p = some (n, 0)) (h : PyFlat.call shape (p :: r) = some (c, t)) : n ≤ r.length ∧ c = [p :: r.take n] ∧ t = r.drop n := by
  unfold PyFlat.call at h
  dsimp only at h
  rw [hs] at h
  dsimp only at h
  split at h
  · cases h
  next hl =>
    unfold PyFlat.rows at h
    dsimp only at h
    have := Option.some.inj h
    injection this with h1 h2
    exact ⟨by omega, h1.symm, h2.symm⟩
/-- a call with one row -/
theorem call_row {shape : Int → Option (Nat × Nat)} {p : Int} {r : List Int} {c : List (List Int)} {t : List Int} {n : Nat} (hs : shape p = some (n, 1)) (h : PyFlat.call shape (p :: r) = some (c, t)) :
    n ≤ r.length ∧ ∃ (k : Nat) (r' : List Int), r.drop n = (k : Int) :: r' ∧ k ≤ r'.length ∧ c = [p :: r.take n, r'.take k] ∧ t = r'.drop k := by
  unfold PyFlat.call at h
  dsimp only at h
  rw [hs] at h
  dsimp only at h
  split at h
  · cases h
  next hl =>
    refine ⟨by omega, ?_⟩
    rw [rows_one] at h
    cases e : r.drop n with
    | nil => rw [e] at h; cases h
    | cons k r' =>
      rw [e] at h
      dsimp only at h
      by_cases hk : 0 ≤ k ∧ k.toNat ≤ r'.length
      · rw [if_pos hk] at h
        dsimp only at h
        have h' := Option.some.inj h
        injection h' with h1 h2
        refine ⟨k.toNat, r', ?_, hk.2, h1.symm, h2.symm⟩
        congr 1
        omega
      · rw [if_neg hk] at h
        cases h
end RvM
end
section
set_option Elab.async false
/-! The people's end: what holds of it, and what it hears. -/
namespace RvM
open Sr38 (Base okCost messageOf bAct startB)
structure WFB (b : Base) : Prop where
  w1 : 1 ≤ b.w
  w2 : b.w ≤ 16
  h1 : 1 ≤ b.h
  h2 : b.h ≤ 16
  len : b.map.length = 256
  tail : ∀ c, b.n ≤ c → b.map.getD c 0 = 0
  od : b.order ≤ 65535
  tl : b.told ≤ 65535
  ce : b.cell < b.n
  an : b.order = 0 → b.ans = none
theorem WFB.n256 {b : Base} (W : WFB b) : b.n ≤ 256 := n_le W.w2 W.h2
theorem WFB.n1 {b : Base} (W : WFB b) : 1 ≤ b.n := Nat.mul_le_mul W.w1 W.h1
theorem startB_wf {w h : Nat} (hw : Sr37.okSize w = true) (hh : Sr37.okSize h = true) : WFB (startB w h) := by
  unfold Sr37.okSize at hw hh
  simp only [Bool.and_eq_true, decide_eq_true_eq] at hw hh
  refine ⟨hw.1, hw.2, hh.1, hh.2, ?_, ?_, ?_, ?_, ?_, fun _ => rfl⟩
  · show (List.replicate Sr38.CELLS 0).length = 256
    rw [List.length_replicate]
    rfl
  · intro c _
    show (List.replicate Sr38.CELLS 0).getD c 0 = 0
    rw [List.getD_eq_getElem?_getD, List.getElem?_replicate]
    split <;> rfl
  · exact Nat.zero_le _
  · exact Nat.zero_le _
  · exact Nat.mul_le_mul hw.1 hh.1
/-- the map is its first n numbers, then nothing but 0 -/
theorem WFB.pad {b : Base} (W : WFB b) : b.map = b.map.take b.n ++ List.replicate (256 - b.n) 0 := by
  have hn := W.n256
  apply List.ext_getElem?
  intro i
  by_cases h : i < b.n
  · rw [List.getElem?_append_left (by rw [List.length_take, W.len]; omega), List.getElem?_take, if_pos h]
  · rw [List.getElem?_append_right (by rw [List.length_take, W.len]; omega), List.length_take, W.len, List.getElem?_replicate]
    have := W.tail i (by omega)
    rw [List.getD_eq_getElem?_getD] at this
    by_cases h2 : i < 256
    · rw [if_pos (by omega)]
      rw [List.getElem?_eq_getElem (by rw [W.len]; exact h2)] at this ⊢
      exact congrArg some this
    · rw [if_neg (by omega), List.getElem?_eq_none (by rw [W.len]; omega)]
theorem framed_kind {b : List Nat} {k : Nat} (h : framed b k = true) : b.getD 0 0 = k := by
  unfold framed at h
  simp only [Bool.and_eq_true, beq_iff_eq] at h
  exact h.1.1.1.1.2
theorem framed_num {b : List Nat} {k : Nat} (h : framed b k = true) : numOf b ≠ 0 := by
  unfold framed at h
  simp only [Bool.and_eq_true, beq_iff_eq, bne_iff_ne] at h
  exact h.1.1.1.2
theorem framed_eight {b : List Nat} {k : Nat} (h : framed b k = true) : b.length = 8 := by
  unfold framed at h
  simp only [Bool.and_eq_true, beq_iff_eq] at h
  exact h.1.1.1.1.1
theorem isSeen_framed {n : Nat} {b : List Nat} (h : isSeen n b = true) : framed b 3 = true ∧ b.getD 4 0 < n ∧ okCost (b.getD 5 0) = true := by
  unfold isSeen at h
  simp only [Bool.and_eq_true, decide_eq_true_eq] at h
  exact ⟨h.1.1, h.1.2, h.2⟩
theorem isAns_framed {b : List Nat} (h : isAns b = true) : framed b 4 = true ∧ b.getD 4 0 ≤ 1 := by
  unfold isAns at h
  simp only [Bool.and_eq_true, decide_eq_true_eq] at h
  exact ⟨h.1.1, h.1.2⟩
theorem isOut_kind {n : Nat} {b : List Nat} (h : isOut n b = true) : b.getD 0 0 = 1 := by
  unfold isOut at h
  simp only [Bool.and_eq_true] at h
  exact framed_kind h.1.1
theorem isHad_kind {b : List Nat} (h : isHad b = true) : b.getD 0 0 = 2 := by
  unfold isHad at h
  simp only [Bool.and_eq_true] at h
  exact framed_kind h.1.1
/-- what's heard, eight or not -/
def tookB (b : List Nat) : Option (List Nat) := if b.length = 8 then some b else none
theorem bHeard_seen {b : Base} {m : List Nat} (h : isSeen b.n m = true) : bAct b (.bHeard (tookB m)) =
    (if numOf m = b.told + 1 then { b with map := b.map.set (m.getD 4 0) (m.getD 5 0), told := numOf m } else b, .num 0,
      if numOf m ≤ b.told + 1 then [.bSend (Sr38.bytesOf (.had (numOf m)))] else []) := by
  have hf := isSeen_framed h
  have hk := framed_kind hf.1
  have e : messageOf b.n m = some (.seen (numOf m) (m.getD 4 0) (m.getD 5 0)) := by
    rw [message_of, if_neg (fun z => by rw [isOut_kind z] at hk; cases hk), if_neg (fun z => by rw [isHad_kind z] at hk; cases hk), if_pos h]
  unfold bAct tookB
  rw [if_pos (framed_eight hf.1)]
  simp only [Option.bind_some, e]
  by_cases hn : numOf m = b.told + 1
  · rw [if_pos hn]
    simp [hn]
  · rw [if_neg hn]
    by_cases h2 : numOf m ≤ b.told
    · rw [if_pos h2, if_pos (by omega)]
    · rw [if_neg h2, if_neg (by omega)]
theorem bHeard_ans {b : Base} {m : List Nat} (h0 : isSeen b.n m = false) (h : isAns m = true) : bAct b (.bHeard (tookB m)) = (if numOf m = b.order ∧ b.ans = none then { b with ans := some (m.getD 4 0 == 1) } else b, .num 0, []) := by
  have hf := isAns_framed h
  have hk := framed_kind hf.1
  have e : messageOf b.n m = some (.answer (numOf m) (m.getD 4 0 == 1)) := by
    rw [message_of, if_neg (fun z => by rw [isOut_kind z] at hk; cases hk), if_neg (fun z => by rw [isHad_kind z] at hk; cases hk), if_neg (by rw [h0]; simp), if_pos h]
  unfold bAct tookB
  rw [if_pos (framed_eight hf.1)]
  simp only [Option.bind_some, e]
theorem bHeard_not {b : Base} {m : List Nat} (h0 : isSeen b.n m = false) (h : isAns m = false) : bAct b (.bHeard (tookB m)) = (b, .num (-71), []) := by
  unfold bAct tookB
  by_cases h8 : m.length = 8
  · rw [if_pos h8]
    simp only [Option.bind_some]
    rw [message_of, h0, h]
    by_cases h1 : isOut b.n m = true
    · simp [h1]
    · by_cases h2 : isHad m = true
      · simp [h1, h2]
      · simp [h1, h2]
  · rw [if_neg h8]
    rfl
theorem bAct_wf {b : Base} (W : WFB b) (c : Sr38.Call) (hc : ∀ m, c = .bHeard m → ∃ l : List Nat, m = tookB l ∧ numOf l ≤ 65535) : WFB (bAct b c).1 := by
  cases c with
  | bStart w h =>
    unfold bAct
    dsimp only
    split
    · exact W
    next hn =>
      have h1 : Sr37.okSize w = true := by cases e : Sr37.okSize w with
        | true => rfl
        | false => exact absurd (.inl e) hn
      have h2 : Sr37.okSize h = true := by cases e : Sr37.okSize h with
        | true => rfl
        | false => exact absurd (.inr e) hn
      exact startB_wf h1 h2
  | avoid k =>
    unfold bAct
    dsimp only
    split
    · exact W
    next h1 =>
      split
      · exact W
      next h2 =>
        split
        · exact W
        next h3 => exact { W with od := by show b.order + 1 ≤ 65535; omega, ce := by show k < b.n; omega, an := fun _ => rfl }
  | bHeard m =>
    obtain ⟨l, rfl, hl⟩ := hc _ rfl
    cases h0 : isSeen b.n l with
    | true =>
      rw [bHeard_seen h0]
      have hf := isSeen_framed h0
      dsimp only
      split
      · refine { W with len := by show (b.map.set _ _).length = 256; rw [List.length_set]; exact W.len, tail := fun c hcn => ?_, tl := hl }
        show (b.map.set _ _).getD c 0 = 0
        rw [List.getD_eq_getElem?_getD, List.getElem?_set, if_neg (by have : b.n ≤ c := hcn; omega), ← List.getD_eq_getElem?_getD]
        exact W.tail c hcn
      · exact W
    | false =>
      cases h1 : isAns l with
      | true =>
        rw [bHeard_ans h0 h1]
        dsimp only
        split
        next h2 => exact { W with an := fun z => absurd (h2.1.trans z) (framed_num (isAns_framed h1).1) }
        · exact W
      | false =>
        rw [bHeard_not h0 h1]
        exact W
  | bTick => exact { W with }
  | map => exact W
  | bState => exact W
  | start _ _ _ _ => exact W
  | step => exact W
  | heard _ => exact W
  | tick => exact W
  | state => exact W
end RvM
end
section
set_option Elab.async false
set_option linter.all false
/-! The edge by sums: a table from a sum to a list's place, the lists by their places. -/
namespace RvM
section
variable {n : Nat} {adj : Nat → Nat → Prop} {ws : Nat → Nat} {b : Nat} {ss : Nat → Nat} {l l' : List (Nat × Nat)}
theorem Out.perm (h : Out n adj ws b ss l) (p : l.Perm l') : Out n adj ws b ss l' := by
  have m : ∀ y c, (y, c) ∈ l' → (y, c) ∈ l := fun y c => p.mem_iff.mpr
  have pc : (cells l).Perm (cells l') := p.map _
  have nc : ∀ {x}, x ∉ cells l' ↔ x ∉ cells l := fun {x} => not_congr pc.mem_iff.symm
  exact ⟨pc.nodup_iff.mp h.nd, fun y c z => h.ent y c (m y c z), h.wz, h.st, fun c hc => (h.src c hc).imp id fun ⟨q, h1, h2, h3, h4⟩ => ⟨q, h1, h2, nc.mpr h3, h4⟩,
    fun q hq hn => h.fin q hq (nc.mp hn), fun q hq hn y c z => h.low q hq (nc.mp hn) y c (m y c z)⟩
theorem Mid.perm {q x : Nat} {tk : Nat → Prop} (h : Mid n adj ws b q x tk ss l) (p : l.Perm l') : Mid n adj ws b q x tk ss l' := by
  have m : ∀ y c, (y, c) ∈ l' → (y, c) ∈ l := fun y c => p.mem_iff.mpr
  have pc : (cells l).Perm (cells l') := p.map _
  have nc : ∀ {x}, x ∉ cells l' ↔ x ∉ cells l := fun {x} => not_congr pc.mem_iff.symm
  exact ⟨pc.nodup_iff.mp h.nd, fun y c z => h.ent y c (m y c z), ⟨h.q0.1, h.q0.2.1, h.q0.2.2.1, nc.mpr h.q0.2.2.2⟩, h.wz, h.st, fun c hc => (h.src c hc).imp id fun ⟨q, h1, h2, h3, h4⟩ => ⟨q, h1, h2, nc.mpr h3, h4⟩,
    fun q hq hn => h.fin q hq (nc.mp hn), fun q hq hn => h.low q hq (nc.mp hn), h.cur⟩
end
/-- the cells with their sums -/
def at1 (x : Nat) (l : List Nat) : List (Nat × Nat) := l.map fun c => (x, c)
def flat (ls : Nat → List Nat) (kvs : List (Nat × Nat)) : List (Nat × Nat) := kvs.flatMap fun kv => at1 kv.1 (ls kv.2)
theorem flat_cons (ls : Nat → List Nat) (kv : Nat × Nat) (r : List (Nat × Nat)) : flat ls (kv :: r) = at1 kv.1 (ls kv.2) ++ flat ls r := rfl
theorem flat_congr {ls ls' : Nat → List Nat} : ∀ {kvs : List (Nat × Nat)}, (∀ kv ∈ kvs, ls' kv.2 = ls kv.2) → flat ls' kvs = flat ls kvs
  | [], _ => rfl
  | kv :: r, h => by rw [flat_cons, flat_cons, h kv (by simp), flat_congr fun k hk => h k (List.mem_cons_of_mem _ hk)]
theorem filter_all {x : Nat} : ∀ {kvs : List (Nat × Nat)}, x ∉ kvs.map (·.1) → kvs.filter (fun kv => decide (kv.1 ≠ x)) = kvs
  | kvs, h => List.filter_eq_self.mpr fun kv hk => decide_eq_true fun e => h (List.mem_map.mpr ⟨kv, hk, e⟩)
theorem flat_pop {ls : Nat → List Nat} {x a : Nat} : ∀ {kvs : List (Nat × Nat)}, (kvs.map (·.1)).Nodup → (x, a) ∈ kvs → (flat ls kvs).Perm (at1 x (ls a) ++ flat ls (kvs.filter fun kv => decide (kv.1 ≠ x)))
  | [], _, h => by simp at h
  | kv :: r, nd, h => by
    rw [List.map_cons, List.nodup_cons] at nd
    rcases List.mem_cons.mp h with e | h
    · subst e
      rw [List.filter_cons, if_neg (by simp), filter_all nd.1]
      exact .refl _
    · have ne : kv.1 ≠ x := fun e => nd.1 (List.mem_map.mpr ⟨_, h, e.symm⟩)
      rw [List.filter_cons, if_pos (decide_eq_true ne), flat_cons, flat_cons]
      refine ((flat_pop nd.2 h).append_left _).trans ?_
      rw [← List.append_assoc, ← List.append_assoc]
      exact List.perm_append_comm.append_right _
/-- one more cell to a list -/
def put1 (ls : Nat → List Nat) (a c : Nat) : Nat → List Nat := fun b => if b = a then ls b ++ [c] else ls b
theorem put1_same (ls : Nat → List Nat) (a c : Nat) : put1 ls a c a = ls a ++ [c] := if_pos rfl
theorem put1_ne {ls : Nat → List Nat} {a c b : Nat} (h : b ≠ a) : put1 ls a c b = ls b := if_neg h
theorem flat_put {ls : Nat → List Nat} {y a c : Nat} : ∀ {kvs : List (Nat × Nat)}, (kvs.map (·.2)).Nodup → (y, a) ∈ kvs → (flat ls kvs ++ [(y, c)]).Perm (flat (put1 ls a c) kvs)
  | [], _, h => by simp at h
  | kv :: r, nd, h => by
    rw [List.map_cons, List.nodup_cons] at nd
    rcases List.mem_cons.mp h with e | h
    · subst e
      have hr : flat (put1 ls a c) r = flat ls r := flat_congr fun k hk => put1_ne fun e => nd.1 (List.mem_map.mpr ⟨k, hk, e⟩)
      rw [flat_cons, flat_cons, put1_same, hr]
      have e2 : at1 y (ls a ++ [c]) = at1 y (ls a) ++ [(y, c)] := by simp [at1]
      rw [e2, List.append_assoc, List.append_assoc]
      exact List.perm_append_comm.append_left _
    · have ne : kv.2 ≠ a := fun e => nd.1 (List.mem_map.mpr ⟨_, h, e.symm⟩)
      rw [flat_cons, flat_cons, put1_ne ne, List.append_assoc]
      exact (flat_put nd.2 h).append_left _
theorem flat_mem {ls : Nat → List Nat} {kvs : List (Nat × Nat)} {y c : Nat} : (y, c) ∈ flat ls kvs ↔ ∃ a, (y, a) ∈ kvs ∧ c ∈ ls a := by
  unfold flat at1
  rw [List.mem_flatMap]
  constructor
  · rintro ⟨⟨k, a⟩, h1, h2⟩
    obtain ⟨d, h3, e⟩ := List.mem_map.mp h2
    cases e
    exact ⟨a, h1, h3⟩
  · rintro ⟨a, h1, h2⟩
    exact ⟨(y, a), h1, List.mem_map.mpr ⟨c, h2, rfl⟩⟩
theorem flat_len {ls : Nat → List Nat} {y a : Nat} : ∀ {kvs : List (Nat × Nat)}, (y, a) ∈ kvs → (ls a).length ≤ (flat ls kvs).length
  | [], h => by simp at h
  | kv :: r, h => by
    rw [flat_cons, List.length_append]
    rcases List.mem_cons.mp h with e | h
    · subst e; unfold at1; rw [List.length_map]; exact Nat.le_add_right _ _
    · have := flat_len (ls := ls) h; omega
end RvM
namespace RvM
theorem nodup_map_inj {α β : Type} {f : α → β} : ∀ {l : List α} {x y : α}, (l.map f).Nodup → x ∈ l → y ∈ l → f x = f y → x = y
  | [], _, _, _, h, _, _ => by simp at h
  | a :: l, x, y, nd, hx, hy, e => by
    rw [List.map_cons, List.nodup_cons] at nd
    rcases List.mem_cons.mp hx with e1 | h1
    · rcases List.mem_cons.mp hy with e2 | h2
      · rw [e1, e2]
      · exact absurd (List.mem_map.mpr ⟨y, h2, by rw [← e, e1]⟩) nd.1
    · rcases List.mem_cons.mp hy with e2 | h2
      · exact absurd (List.mem_map.mpr ⟨x, h1, by rw [e, e2]⟩) nd.1
      · exact nodup_map_inj nd.2 h1 h2 e
end RvM
end
section
set_option Elab.async false
/-! The loop over the one list of calls: what holds between two turns. -/
namespace RvM
open Sr38Neutral (S tried step may asked1 asked start)
/-- from a place on: the calls that are left, what they'll answer -/
structure Loop (ns : List Int) (k : Nat) (given : List Int) (s : S) (rest : List (List (List Int))) : Prop where
  le : k ≤ ns.length
  cs : ∃ f, PyFlat.calls PySr38.shape f (ns.drop k) = some rest
  ok : ∀ c ∈ rest, asked1 c = true
  may : Sr38Neutral.may s rest = true
  eq : PySr38.answers ns = given ++ PyFlat.told (PyFlat.played step s rest)
  len : given.length + (PyFlat.told (PyFlat.played step s rest)).length ≤ 1002000
theorem played_answers : ∀ (l : List (List (List Int))) (s : S), Sr38Neutral.may s l = true → PyFlat.played step s l = Sr38Neutral.answers s l
  | [], s, _ => rfl
  | c :: l, s, h => by
    unfold Sr38Neutral.may at h
    unfold PyFlat.played Sr38Neutral.answers
    cases e : tried s c with
    | none => rw [e] at h; cases h
    | some y =>
      rw [e] at h
      dsimp only at h ⊢
      have e1 : step s c = y := by unfold step; rw [e]
      rw [e1, played_answers l y.1 h]
theorem told_len : ∀ (l : List (List Int)), (PyFlat.told l).length = (l.map List.length).foldl (· + ·) 0 + l.length := by
  have key : ∀ (l : List (List Int)) (a : Nat), (l.map List.length).foldl (· + ·) a = a + (l.map List.length).foldl (· + ·) 0 := by
    intro l
    induction l with
    | nil => intro a; simp
    | cons x l ih =>
      intro a
      rw [List.map_cons, List.foldl_cons, List.foldl_cons, ih (a + x.length), ih (0 + x.length)]
      omega
  intro l
  induction l with
  | nil => rfl
  | cons x l ih =>
    have e : PyFlat.told (x :: l) = ((x.length : Int) :: x) ++ PyFlat.told l := rfl
    rw [e, List.length_append, ih, List.map_cons, List.foldl_cons, key l (0 + x.length), List.length_cons, List.length_cons]
    omega
theorem answers_length : ∀ (l : List (List (List Int))) (s : S), (PyFlat.played step s l).length = l.length
  | [], _ => rfl
  | c :: l, s => by unfold PyFlat.played; rw [List.length_cons, answers_length l, List.length_cons]
theorem Loop.start {ns : List Int} (h : PySr38.answers_asked ns = true) : ∃ cs, Loop ns 0 [] Sr38Neutral.start cs := by
  unfold PySr38.answers_asked at h
  cases e : PySr38.calls ns with
  | none => rw [e] at h; cases h
  | some cs =>
    rw [e] at h
    have e2 := e
    unfold PySr38.calls at e2
    cases e3 : PyFlat.calls PySr38.shape ns.length ns with
    | none => rw [e3] at e2; cases e2
    | some cs' =>
      rw [e3] at e2
      have e4 : cs' = cs := by have := Option.some.inj e2; rw [whole_map] at this; exact this
      subst e4
      dsimp only at h
      unfold asked PyFlat.atMost at h
      simp only [Bool.and_eq_true, decide_eq_true_eq, List.all_eq_true] at h
      obtain ⟨h0, h1, h2, h3, h4, h5⟩ := h
      have hp := played_answers cs' Sr38Neutral.start h4
      refine ⟨cs', Nat.zero_le _, ⟨ns.length, by rw [List.drop_zero]; exact e3⟩, h3, h4, ?_, ?_⟩
      · unfold PySr38.answers
        rw [e]
        rfl
      · rw [told_len, answers_length, hp]
        simp only [List.length_nil]
        omega
/-- a turn: the call that stands there, and what is behind it -/
theorem Loop.turn {ns : List Int} {k : Nat} {given : List Int} {s : S} {rest : List (List (List Int))} (L : Loop ns k given s rest) (hk : k < ns.length) :
    ∃ (p : Int) (r : List Int) (c : List (List Int)) (t : List Int) (rest' : List (List (List Int))) (y : S × List Int), ns.drop k = p :: r ∧ PyFlat.call PySr38.shape (p :: r) = some (c, t) ∧ asked1 c = true ∧ tried s c = some y ∧ rest = c :: rest' ∧
      ∀ k', k' ≤ ns.length → ns.drop k' = t → Loop ns k' (given ++ ((y.2.length : Int) :: y.2)) y.1 rest' := by
  obtain ⟨f, hf⟩ := L.cs
  have hd : ns.drop k ≠ [] := fun e => by
    have := congrArg List.length e
    rw [List.length_drop, List.length_nil] at this
    omega
  cases e : ns.drop k with
  | nil => exact absurd e hd
  | cons p r =>
    rw [e] at hf
    obtain ⟨f', c, t, cs', rfl, h1, h2, rfl⟩ := calls_cons hf
    have hm := L.may
    unfold Sr38Neutral.may at hm
    cases ey : tried s c with
    | none => rw [ey] at hm; cases hm
    | some y =>
      rw [ey] at hm
      dsimp only at hm
      have es : step s c = y := by unfold step; rw [ey]
      have et : PyFlat.told (PyFlat.played step s (c :: cs')) = ((y.2.length : Int) :: y.2) ++ PyFlat.told (PyFlat.played step y.1 cs') := by
        have e5 : PyFlat.played step s (c :: cs') = (step s c).2 :: PyFlat.played step (step s c).1 cs' := rfl
        rw [e5, es]
        rfl
      have heq := L.eq
      have hlen := L.len
      rw [et] at heq hlen
      refine ⟨p, r, c, t, cs', y, rfl, h1, L.ok c (by simp), ey, rfl, fun k' hk' hdr => ⟨hk', ⟨f', by rw [hdr]; exact h2⟩, fun c' hc' => L.ok c' (List.mem_cons_of_mem _ hc'), hm, ?_, ?_⟩⟩
      · rw [heq, List.append_assoc]
      · rw [List.length_append] at hlen ⊢
        omega
theorem Loop.done {ns : List Int} {given : List Int} {s : S} {rest : List (List (List Int))} {k : Nat} (L : Loop ns k given s rest) (hk : ¬ k < ns.length) : given = PySr38.answers ns := by
  obtain ⟨f, hf⟩ := L.cs
  rw [List.drop_of_length_le (by omega)] at hf
  have := calls_nil hf
  subst this
  rw [L.eq]
  simp [PyFlat.played, PyFlat.told]
/-- which call it is, by its shape -/
theorem shape_cases {p : Int} {n k : Nat} (h : PySr38.shape p = some (n, k)) : (p = 0 ∧ n = 4 ∧ k = 1) ∨ (p = 1 ∧ n = 0 ∧ k = 0) ∨ (p = 2 ∧ n = 0 ∧ k = 1) ∨ (p = 3 ∧ n = 0 ∧ k = 0) ∨ (p = 4 ∧ n = 0 ∧ k = 0) ∨ (p = 5 ∧ n = 2 ∧ k = 0) ∨ (p = 6 ∧ n = 1 ∧ k = 0) ∨ (p = 7 ∧ n = 0 ∧ k = 1) ∨ (p = 8 ∧ n = 0 ∧ k = 0) ∨ (p = 9 ∧ n = 0 ∧ k = 0) ∨ (p = 10 ∧ n = 0 ∧ k = 0) := by
  unfold PySr38.shape at h
  by_cases e : p = 0
  · rw [if_pos e] at h; cases h; exact .inl ⟨e, rfl, rfl⟩
  rw [if_neg e] at h; clear e
  by_cases e : p = 1
  · rw [if_pos e] at h; cases h; exact .inr (.inl ⟨e, rfl, rfl⟩)
  rw [if_neg e] at h; clear e
  by_cases e : p = 2
  · rw [if_pos e] at h; cases h; exact .inr (.inr (.inl ⟨e, rfl, rfl⟩))
  rw [if_neg e] at h; clear e
  by_cases e : p = 3
  · rw [if_pos e] at h; cases h; exact .inr (.inr (.inr (.inl ⟨e, rfl, rfl⟩)))
  rw [if_neg e] at h; clear e
  by_cases e : p = 4
  · rw [if_pos e] at h; cases h; exact .inr (.inr (.inr (.inr (.inl ⟨e, rfl, rfl⟩))))
  rw [if_neg e] at h; clear e
  by_cases e : p = 5
  · rw [if_pos e] at h; cases h; exact .inr (.inr (.inr (.inr (.inr (.inl ⟨e, rfl, rfl⟩)))))
  rw [if_neg e] at h; clear e
  by_cases e : p = 6
  · rw [if_pos e] at h; cases h; exact .inr (.inr (.inr (.inr (.inr (.inr (.inl ⟨e, rfl, rfl⟩))))))
  rw [if_neg e] at h; clear e
  by_cases e : p = 7
  · rw [if_pos e] at h; cases h; exact .inr (.inr (.inr (.inr (.inr (.inr (.inr (.inl ⟨e, rfl, rfl⟩)))))))
  rw [if_neg e] at h; clear e
  by_cases e : p = 8
  · rw [if_pos e] at h; cases h; exact .inr (.inr (.inr (.inr (.inr (.inr (.inr (.inr (.inl ⟨e, rfl, rfl⟩))))))))
  rw [if_neg e] at h; clear e
  by_cases e : p = 9
  · rw [if_pos e] at h; cases h; exact .inr (.inr (.inr (.inr (.inr (.inr (.inr (.inr (.inr (.inl ⟨e, rfl, rfl⟩)))))))))
  rw [if_neg e] at h; clear e
  by_cases e : p = 10
  · rw [if_pos e] at h; cases h; exact .inr (.inr (.inr (.inr (.inr (.inr (.inr (.inr (.inr (.inr (⟨e, rfl, rfl⟩))))))))))
  rw [if_neg e] at h; clear e
  cases h
end RvM
end
section
set_option Elab.async false
/-! A call that's asked: which it is, its numbers as naturals, what it's answered by. -/
namespace RvM
open Sr38Neutral (S tried asked1 natural okBytes byRover byBase reckonR ground given told nats eight)
open Sr38 (Rover Base Ev Ans okCost)
def iNs (l : List Nat) : List Int := l.map fun (n : Nat) => (n : Int)
theorem nats_iNs (l : List Nat) : nats (iNs l) = l := by
  unfold nats iNs
  rw [List.map_map]
  conv => rhs; rw [← List.map_id l]
  exact List.map_congr_left fun a _ => by simp
theorem natural_nat {z : Int} {b : Nat} (h : natural z b = true) : ∃ n : Nat, z = (n : Int) ∧ n < 2 ^ b := by
  unfold natural at h
  simp only [Bool.and_eq_true, decide_eq_true_eq] at h
  refine ⟨z.toNat, by omega, ?_⟩
  have h2 := h.2
  have e : ((2 : Int) ^ b) = (((2 ^ b : Nat)) : Int) := by simp
  rw [e] at h2
  omega
theorem all_nat {l : List Int} {b : Nat} (h : ∀ x ∈ l, natural x b = true) : l = iNs (nats l) ∧ ∀ x ∈ nats l, x < 2 ^ b := by
  constructor
  · unfold iNs nats
    rw [List.map_map]
    conv => lhs; rw [← List.map_id l]
    refine List.map_congr_left fun a ha => ?_
    obtain ⟨n, rfl, _⟩ := natural_nat (h a ha)
    simp
  · intro x hx
    unfold nats at hx
    obtain ⟨z, hz, rfl⟩ := List.mem_map.mp hx
    obtain ⟨n, rfl, hn⟩ := natural_nat (h z hz)
    simpa using hn
theorem okBytes_nat {l : List Int} (h : okBytes l = true) : ∃ b : List Nat, l = iNs b ∧ (∀ x ∈ b, x ≤ 255) ∧ eight l = tookB b := by
  unfold okBytes at h
  simp only [Bool.and_eq_true, List.all_eq_true] at h
  obtain ⟨h1, h2⟩ := all_nat h.1
  refine ⟨nats l, h1, fun x hx => ?_, ?_⟩
  · have := h2 x hx
    omega
  · unfold eight tookB
    have e : (nats l).length = l.length := by unfold nats; rw [List.length_map]
    rw [e]
/-- a call without a row -/
theorem asked_plain {p : Int} {ps : List Int} (h : asked1 [p :: ps] = true) : (p = 1 ∧ ps = []) ∨ (p = 3 ∧ ps = []) ∨ (p = 4 ∧ ps = []) ∨ (p = 5 ∧ ∃ w h : Nat, ps = [(w : Int), (h : Int)]) ∨ (p = 6 ∧ ∃ c : Nat, ps = [(c : Int)]) ∨ (p = 8 ∧ ps = []) ∨ (p = 9 ∧ ps = []) ∨ (p = 10 ∧ ps = []) := by
  unfold asked1 at h
  split at h
  next e => cases e
  next e => cases e; simp
  next e => cases e
  next e => cases e; simp
  next e => cases e; simp
  next e =>
    cases e
    simp only [Bool.and_eq_true] at h
    obtain ⟨w, rfl, _⟩ := natural_nat h.1
    obtain ⟨h', rfl, _⟩ := natural_nat h.2
    exact .inr (.inr (.inr (.inl ⟨rfl, w, h', rfl⟩)))
  next e =>
    cases e
    obtain ⟨w, rfl, _⟩ := natural_nat h
    exact .inr (.inr (.inr (.inr (.inl ⟨rfl, w, rfl⟩))))
  next e => cases e
  next e => cases e; simp
  next e => cases e; simp
  next e => cases e; simp
  next => cases h
/-- a call with a row -/
theorem asked_row {p : Int} {ps row : List Int} (h : asked1 [p :: ps, row] = true) : (p = 0 ∧ ∃ (w h c room : Nat) (g : List Nat), ps = [(w : Int), (h : Int), (c : Int), (room : Int)] ∧ row = iNs g ∧ g.length = 256 ∧ ∀ x ∈ g, okCost x = true) ∨
    (p = 2 ∧ ps = [] ∧ ∃ b : List Nat, row = iNs b ∧ (∀ x ∈ b, x ≤ 255) ∧ eight row = tookB b) ∨ (p = 7 ∧ ps = [] ∧ ∃ b : List Nat, row = iNs b ∧ (∀ x ∈ b, x ≤ 255) ∧ eight row = tookB b) := by
  unfold asked1 at h
  split at h
  next e =>
    cases e
    simp only [Bool.and_eq_true, List.all_eq_true, decide_eq_true_eq] at h
    obtain ⟨h1, h2, h3, h4, h5, h6⟩ := h
    obtain ⟨w, rfl, _⟩ := natural_nat h1
    obtain ⟨h', rfl, _⟩ := natural_nat h2
    obtain ⟨c, rfl, _⟩ := natural_nat h3
    obtain ⟨room, rfl, _⟩ := natural_nat h4
    obtain ⟨e1, _⟩ := all_nat fun x hx => (h5 x hx).1
    refine .inl ⟨rfl, w, h', c, room, nats row, rfl, e1, by unfold nats; rw [List.length_map]; exact h6, fun x hx => ?_⟩
    unfold nats at hx
    obtain ⟨z, hz, rfl⟩ := List.mem_map.mp hx
    exact (h5 z hz).2
  next e => cases e
  next e => cases e; exact .inr (.inl ⟨rfl, rfl, okBytes_nat h⟩)
  next e => cases e
  next e => cases e
  next e => cases e
  next e => cases e
  next e => cases e; exact .inr (.inr ⟨rfl, rfl, okBytes_nat h⟩)
  next e => cases e
  next e => cases e
  next e => cases e
  next => cases h
theorem byRover_some {s : S} {c : Sr38.Call} {y : S × List Int} (h : byRover s c = some y) : ∃ (r : Rover) (g : List Nat) (evs : List Ev) (r' : Rover) (ans : Ans), s.1 = some (r, g) ∧ reckonR (ground g) r c = some (evs, r', ans) ∧ y = ((some (r', g), s.2), given ans ++ evs.flatMap told) := by
  unfold byRover at h
  cases e : s.1 with
  | none => rw [e] at h; cases h
  | some x =>
    obtain ⟨r, g⟩ := x
    rw [e] at h
    dsimp only at h
    cases e2 : reckonR (ground g) r c with
    | none => rw [e2] at h; cases h
    | some z =>
      obtain ⟨evs, r', ans⟩ := z
      rw [e2] at h
      exact ⟨r, g, evs, r', ans, rfl, e2, (Option.some.inj h).symm⟩
theorem byBase_some {s : S} {c : Sr38.Call} {y : S × List Int} (h : byBase s c = some y) : ∃ b : Base, s.2 = some b ∧ y = ((s.1, some (Sr38.bAct b c).1), given (Sr38.bAct b c).2.1 ++ (Sr38.bAct b c).2.2.flatMap told) := by
  unfold byBase at h
  cases e : s.2 with
  | none => rw [e] at h; cases h
  | some x =>
    rw [e] at h
    exact ⟨x, rfl, (Option.some.inj h).symm⟩
end RvM
end
section
set_option Elab.async false
/-! Tables of sets: a rising row of places stays one. -/
namespace RvS
open PySem PySem.SetTable

abbrev Rise (xs : Array Nat) : Prop := ∀ (i j a b : Nat), i < j → xs[i]? = some a → xs[j]? = some b → a < b

theorem getD_of {xs : Array Nat} {i d a : Nat} (h : xs[i]? = some a) : xs.getD i d = a := by
  simp [Array.getD_eq_getD_getElem?, h]

theorem below_go (xs : Array Nat) (j : Nat) (hr : Rise xs) : ∀ (fuel lo hi : Nat), hi - lo ≤ fuel → lo ≤ hi → hi ≤ xs.size → (∀ i a, i < lo → xs[i]? = some a → a < j) → (∀ i a, hi ≤ i → xs[i]? = some a → j ≤ a) →
    lo ≤ below.go xs j fuel lo hi ∧ below.go xs j fuel lo hi ≤ xs.size ∧ (∀ i a, i < below.go xs j fuel lo hi → xs[i]? = some a → a < j) ∧ (∀ i a, below.go xs j fuel lo hi ≤ i → xs[i]? = some a → j ≤ a) := by
  intro fuel
  induction fuel with
  | zero =>
    intro lo hi hf hl hs h1 h2
    have e : lo = hi := by omega
    subst e
    unfold below.go
    exact ⟨Nat.le_refl _, hs, h1, h2⟩
  | succ fuel ih =>
    intro lo hi hf hl hs h1 h2
    unfold below.go
    by_cases hlt : lo < hi
    · rw [if_pos hlt]
      simp only
      have hm : (lo + hi) / 2 < xs.size := by omega
      have em : xs[(lo + hi) / 2]? = some xs[(lo + hi) / 2] := Array.getElem?_eq_getElem hm
      rw [getD_of em]
      split
      next hc =>
        have h3 : ∀ i a, i < (lo + hi) / 2 + 1 → xs[i]? = some a → a < j := fun i a hi' ha => by
          by_cases e : i = (lo + hi) / 2
          · subst e
            rw [em] at ha
            have := Option.some.inj ha
            omega
          · have := hr i _ a _ (by omega) ha em
            omega
        obtain ⟨a1, a2, a3, a4⟩ := ih ((lo + hi) / 2 + 1) hi (by omega) (by omega) hs h3 h2
        exact ⟨by omega, a2, a3, a4⟩
      next hc =>
        have h3 : ∀ i a, (lo + hi) / 2 ≤ i → xs[i]? = some a → j ≤ a := fun i a hi' ha => by
          by_cases e : i = (lo + hi) / 2
          · subst e
            rw [em] at ha
            have := Option.some.inj ha
            omega
          · have := hr _ i _ a (by omega) em ha
            omega
        exact ih lo ((lo + hi) / 2) (by omega) (by omega) (by omega) h1 h3
    · rw [if_neg hlt]
      have e : lo = hi := by omega
      subst e
      exact ⟨Nat.le_refl _, hs, h1, h2⟩
theorem below_ok {xs : Array Nat} (hr : Rise xs) (j : Nat) : below xs j ≤ xs.size ∧ (∀ i a, i < below xs j → xs[i]? = some a → a < j) ∧ (∀ i a, below xs j ≤ i → xs[i]? = some a → j ≤ a) := by
  obtain ⟨_, a2, a3, a4⟩ := below_go xs j hr xs.size 0 xs.size (by omega) (by omega) (Nat.le_refl _) (fun i a h => absurd h (Nat.not_lt_zero _)) (fun i a h ha => by
    have := Array.getElem?_eq_some_iff.mp ha
    obtain ⟨h1, _⟩ := this
    omega)
  exact ⟨a2, a3, a4⟩

theorem insertAt_get {α : Type} (xs : Array α) {p : Nat} (hp : p ≤ xs.size) (x : α) (i : Nat) : (insertAt xs p x)[i]? = if i < p then xs[i]? else if i = p then some x else xs[i - 1]? := by
  unfold insertAt
  rw [Array.getElem?_append]
  simp only [Array.size_push, Array.size_extract, Nat.min_eq_left hp, Nat.sub_zero]
  by_cases h1 : i < p
  · rw [if_pos (by omega), if_pos h1, Array.getElem?_push]
    simp only [Array.size_extract, Nat.min_eq_left hp, Nat.sub_zero]
    rw [if_neg (by omega), Array.getElem?_extract]
    simp only [Nat.min_eq_left hp, Nat.zero_add]
    rw [if_pos (by omega)]
  · rw [if_neg h1]
    by_cases h2 : i = p
    · rw [if_pos (by omega), if_pos h2, Array.getElem?_push]
      simp only [Array.size_extract, Nat.min_eq_left hp, Nat.sub_zero]
      rw [if_pos (by omega)]
    · rw [if_neg (by omega), if_neg h2, Array.getElem?_extract]
      simp only [Nat.min_self]
      by_cases h3 : i - (p + 1) < xs.size - p
      · rw [if_pos h3]
        congr 1
        omega
      · rw [if_neg h3, Array.getElem?_eq_none (by omega)]
theorem insertAt_size {α : Type} (xs : Array α) {p : Nat} (hp : p ≤ xs.size) (x : α) : (insertAt xs p x).size = xs.size + 1 := by
  unfold insertAt
  simp [Nat.min_eq_left hp]
  omega

theorem insert_rise {xs : Array Nat} (hr : Rise xs) {j : Nat} (hn : xs[below xs j]? ≠ some j) : Rise (insertAt xs (below xs j) j) := by
  obtain ⟨b1, b2, b3⟩ := below_ok hr j
  intro i k a b hik ha hb
  rw [insertAt_get xs b1] at ha hb
  have b4 : ∀ i a, below xs j ≤ i → xs[i]? = some a → j < a := fun i a hi ha => by
    have h1 := b3 i a hi ha
    by_cases e : i = below xs j
    · subst e
      have : a ≠ j := fun q => hn (by rw [ha, q])
      omega
    · have hp : below xs j < xs.size := by
        have := (Array.getElem?_eq_some_iff.mp ha).1
        omega
      have h2 := hr (below xs j) i _ a (by omega) (Array.getElem?_eq_getElem hp) ha
      have h3 := b3 (below xs j) _ (Nat.le_refl _) (Array.getElem?_eq_getElem hp)
      omega
  by_cases h1 : k < below xs j
  · rw [if_pos (by omega)] at ha
    rw [if_pos h1] at hb
    exact hr i k a b hik ha hb
  · rw [if_neg h1] at hb
    by_cases h2 : k = below xs j
    · rw [if_pos h2] at hb
      rw [if_pos (by omega)] at ha
      have := b2 i a (by omega) ha
      have := Option.some.inj hb
      omega
    · rw [if_neg h2] at hb
      have hbj := b4 (k - 1) b (by omega) hb
      by_cases h3 : i < below xs j
      · rw [if_pos h3] at ha
        have := b2 i a h3 ha
        omega
      · rw [if_neg h3] at ha
        by_cases h4 : i = below xs j
        · rw [if_pos h4] at ha
          have := Option.some.inj ha
          omega
        · rw [if_neg h4] at ha
          exact hr (i - 1) (k - 1) a b (by omega) ha hb

/-- the place behind one's own is the next -/
theorem below_next {xs : Array Nat} (hr : Rise xs) {i a : Nat} (h : xs[i]? = some a) : below xs (a + 1) = i + 1 := by
  obtain ⟨b1, b2, b3⟩ := below_ok hr (a + 1)
  have hlt := (Array.getElem?_eq_some_iff.mp h).1
  apply Nat.le_antisymm
  · refine Nat.le_of_not_lt fun q => ?_
    have hs : i + 1 < xs.size := by omega
    have h1 := b2 (i + 1) _ q (Array.getElem?_eq_getElem hs)
    have h2 := hr i (i + 1) a _ (by omega) h (Array.getElem?_eq_getElem hs)
    omega
  · refine Nat.le_of_not_lt fun q => ?_
    have h1 := b3 i a (by omega) h
    omega
theorem below_first {xs : Array Nat} (hr : Rise xs) : below xs 0 = 0 := by
  obtain ⟨b1, b2, b3⟩ := below_ok hr 0
  refine Nat.eq_zero_of_not_pos fun q => ?_
  have hs : 0 < xs.size := by omega
  have := b2 0 _ q (Array.getElem?_eq_getElem hs)
  omega

/-! ### a table that keeps its places in order -/
structure TOk (t : SetTable) : Prop where
  dm : t.dummies = #[]
  rs : t.plain = true → Rise t.place

theorem slot_not_dummy {t : SetTable} (h : t.dummies = #[]) (j : Nat) : t.slot j ≠ .dummy := by
  unfold SetTable.slot
  simp only
  split
  · intro q; cases q
  · have : has t.dummies j = false := by
      unfold has
      rw [h]
      simp
    rw [this]
    simp
theorem probe_empty {t : SetTable} (hd : t.dummies = #[]) {ha : Nat → Int} {h : Int} : ∀ (fuel : Nat) (p : Probe) (j : Nat) (dm : Option Nat), p.dummy = none → SetTable.probe.go t ha h fuel p = some (.empty j dm) → dm = none ∧ t.place[below t.place j]? ≠ some j := by
  intro fuel
  induction fuel with
  | zero => intro p j dm _ e; unfold SetTable.probe.go at e; cases e
  | succ fuel ih =>
    intro p j dm hp e
    unfold SetTable.probe.go at e
    split at e
    next hs =>
      have := Option.some.inj e
      injection this with e1 e2
      refine ⟨by rw [← e2, hp], fun q => ?_⟩
      rw [← e1] at q
      unfold SetTable.slot at hs
      simp only [q, beq_self_eq_true, if_true] at hs
      cases hs
    next hs => exact absurd hs (slot_not_dummy hd _)
    next hs =>
      split at e
      · cases e
      · refine ih _ j dm ?_ e
        unfold SetTable.advance
        split
        · exact hp
        · exact hp
theorem free_ok {t : SetTable} (hd : t.dummies = #[]) {h : Int} {j : Nat} {wd : Bool} (e : t.freeSlot h = some (j, wd)) : wd = false ∧ t.place[below t.place j]? ≠ some j := by
  unfold SetTable.freeSlot at e
  split at e
  next j' dm hp =>
    obtain ⟨h1, h2⟩ := probe_empty hd _ _ j' dm rfl hp
    subst h1
    have := Option.some.inj e
    injection this with e1 e2
    simp at e1 e2
    subst e1
    exact ⟨by cases wd <;> simp_all, h2⟩
  next => cases e

theorem put_ok {t : SetTable} (T : TOk t) {j : Nat} (hn : t.place[below t.place j]? ≠ some j) : TOk (t.put j).1 where
  dm := by
    unfold SetTable.put
    simp only
    have : has t.dummies j = false := by
      unfold has
      rw [T.dm]
      simp
    rw [this]
    exact T.dm
  rs := fun hp => insert_rise (T.rs hp) hn

theorem laid_rise {mask finger moves : Nat} {led plain : Bool} {hs : Array Int} {t' : SetTable} {o : Array Nat} (h : SetTable.laid mask finger moves led plain hs = some (t', o)) : TOk t' ∧ t'.led = led ∧ t'.plain = plain := by
  unfold SetTable.laid at h
  cases e : SetTable.layClean mask hs with
  | none => rw [e] at h; cases h
  | some owner =>
    rw [e] at h
    have := Option.some.inj h
    injection this with h1 h2
    subst h1
    refine ⟨⟨rfl, fun _ => ?_⟩, rfl, rfl⟩
    intro i j a b hij ha hb
    simp only [List.getElem?_toArray] at ha hb
    have hp : (((List.range (mask + 1)).filterMap fun j => (owner.getD j none).map (j, ·)).map (·.1)).Pairwise (· < ·) := by
      rw [List.pairwise_map, List.pairwise_filterMap]
      refine List.pairwise_lt_range.imp fun {x y} hxy u hu v hv => ?_
      cases e1 : owner.getD x none with
      | none => rw [e1] at hu; cases hu
      | some z =>
        cases e2 : owner.getD y none with
        | none => rw [e2] at hv; cases hv
        | some z2 =>
          rw [e1] at hu
          rw [e2] at hv
          cases hu
          cases hv
          exact hxy
    obtain ⟨hi, ei⟩ := List.getElem?_eq_some_iff.mp ha
    obtain ⟨hj, ej⟩ := List.getElem?_eq_some_iff.mp hb
    rw [← ei, ← ej]
    exact List.pairwise_iff_getElem.mp hp i j hi hj hij

/-- kept by an add -/
structure TKeep (t t' : SetTable) : Prop where
  ok : TOk t'
  led : t'.led = t.led
theorem standIn_ok (t : SetTable) (n : Nat) : TOk (t.standIn n) := ⟨rfl, fun h => by cases h⟩
theorem orStandIn_ok {t : SetTable} (T : TOk t) (n : Nat) : TOk (t.orStandIn n) ∧ (t.orStandIn n).led = t.led := by
  unfold SetTable.orStandIn
  split
  · exact ⟨T, rfl⟩
  · exact ⟨standIn_ok _ _, rfl⟩
theorem layNew_ok {t : SetTable} (T : TOk t) {es es' : Array (Int × Value)} {h : Int} {x : Value} {t' : SetTable} {b c : Bool} (e : layNew t es h x = (es', t', b, c)) : TKeep t t' := by
  unfold layNew at e
  split at e
  next slot wd hf =>
    obtain ⟨_, hn⟩ := free_ok T.dm hf
    have T2 := put_ok T hn
    injection e with e1 e2
    injection e2 with e3 e4
    subst e3
    exact ⟨(orStandIn_ok T2 _).1, (orStandIn_ok T2 _).2⟩
  next =>
    injection e with e1 e2
    injection e2 with e3 e4
    subst e3
    exact ⟨standIn_ok _ _, rfl⟩
theorem relayAll_ok {t : SetTable} {es es' : Array (Int × Value)} {n : Nat} {t' : SetTable} {b : Bool} (e : relayAll t es n = (es', t', b)) : TKeep t t' := by
  unfold relayAll at e
  split at e
  next t2 o hf =>
    unfold SetTable.relaid at hf
    obtain ⟨h1, h2, h3⟩ := laid_rise hf
    simp only at e
    split at e
    · injection e with e1 e2
      injection e2 with e3 e4
      subst e3
      exact ⟨h1, h2⟩
    · injection e with e1 e2
      injection e2 with e3 e4
      subst e3
      exact ⟨standIn_ok _ _, rfl⟩
  next =>
    injection e with e1 e2
    injection e2 with e3 e4
    subst e3
    exact ⟨standIn_ok _ _, rfl⟩
end RvS
end
section
set_option Elab.async false
set_option linter.all false
set_option maxRecDepth 100000
/-! A set of ints, its table kept in order: an int is added. -/
namespace RvS
open PySem PySem.SetTable

def byTextOf (w : World) : Bool := w.params.followText "set-order"
/-- an entry's int -/
def kOf (e : Int × Value) : Int := match e.2 with
  | .int k _ => k
  | _ => 0
def GoodE (e : Int × Value) : Prop := e.1 = hashInt (kOf e) ∧ ∃ t, e.2 = Value.int (kOf e) t
/-- the set at a holds the ints ks, in the order of its entries; none twice -/
structure SetT (w : World) (h : Heap) (a : Addr) (o : Obj) (es : Array (Int × Value)) (ep : Nat) (t : SetTable) (ks : List Int) : Prop where
  ob : h.get? a = some o
  ex : o.ExactSet
  dt : o.data = .set es ep t
  good : ∀ e ∈ es.toList, GoodE e
  keys : es.toList.map kOf = ks
  nd : ks.Nodup
  small : es.size < scanBound
  fits : t.fits es.size = true
  tok : TOk t
  led : t.led = !(byTextOf w)

theorem GoodE.is {prog : Program} {w : World} {e : Int × Value} (g : GoodE e) (k : Int) : (intKind prog w).is k e.2 = true ↔ k = kOf e := by
  obtain ⟨_, t, ht⟩ := g
  show Value.isInt k e.2 = true ↔ _
  rw [ht]
  constructor
  · intro h
    obtain ⟨u, hu⟩ := Value.isInt_shape h
    injection hu with h1 _
    exact h1.symm
  · intro h
    rw [h]
    simp [Value.isInt]
theorem elems_of {prog : Program} {w : World} {l : List (Int × Value)} (g : ∀ e ∈ l, GoodE e) : ElemsOf (intKind prog w) l := fun e he => by
  have ge := g e he
  refine ⟨⟨kOf e, (ge.is _).mpr rfl, ge.1⟩, ?_⟩
  obtain ⟨_, t, ht⟩ := ge
  rw [ht]
  rfl
theorem put_get {h : Heap} {a : Addr} {o : Obj} {es es' : Array (Int × Value)} {ep : Nat} {t t' : SetTable} (ho : h.get? a = some o) (hd : o.data = .set es ep t) :
    (h.update a (Obj.putSet es' t')).get? a = some { o with data := .set es' (ep + 1) t' } := by
  have q := Heap.get?_update_self (Obj.putSet es' t') ho (by rw [putSet_of es' t' hd]; rfl)
  rw [putSet_of es' t' hd] at q
  exact q
theorem good_new {k : Int} {t : Tok} : GoodE (hashInt k, Value.int k t) := ⟨rfl, t, rfl⟩

section
variable {prog : Program} {w : World} {A : Around} {E : Value → Shared → Prop} {s : Shared}
theorem gave_way (b : Bool) {s1 : Shared} {Q' : Unit → Shared → Prop} (q : Q' () s1) : wpAny (model prog w) A (match b with | true => rule "set.scan.the-table-gave-way" | false => pure ()) Q' E s1 := by
  cases b
  · exact wpAny_pure q
  · exact wpAny_rule q
theorem add_tail {g : Bool → Sem Unit} (gv : ∀ (b : Bool) (s1 : Shared) (Q' : Unit → Shared → Prop), Q' () s1 → wpAny (model prog w) A (g b) Q' E s1) {a : Addr} {o : Obj} {es es1 : Array (Int × Value)} {ep : Nat} {t t1 : SetTable} {ks : List Int} {k : Int}
    (S : SetT w s.heap a o es ep t ks) (T1 : TKeep t t1) (good1 : ∀ e ∈ es1.toList, GoodE e) (keys1 : (es1.toList.map kOf).Perm (ks ++ [k])) (nd1 : (es1.toList.map kOf).Nodup) (small1 : es1.size < scanBound) (hfits : t1.fits es1.size = true) {wd : Bool} {R : Option Bool → Shared → Prop}
    (hR : ∀ h' o' es' ep' t' ks', Heap.SameBut a s.heap h' → SetT w h' a o' es' ep' t' ks' → ks'.Perm (ks ++ [k]) → R (some true) { s with heap := h' }) :
    wpAny (model prog w) A (storeSet a es1 t1 >>= fun _ => if (!wd && t1.tooFull) = true then
        (g (relayAll t1 es1 (SetTable.grown es1.size)).2.2 >>= fun _ => storeSet a (relayAll t1 es1 (SetTable.grown es1.size)).1 (relayAll t1 es1 (SetTable.grown es1.size)).2.1 >>= fun _ => pure (some true))
      else pure (some true)) R E s := by
  refine wpAny_bind (wpAny_storeSet_of S.ob S.dt ?_ (fits_of_scanBound small1))
  have ob1 := put_get (es' := es1) (t' := t1) S.ob S.dt
  have sb1 := Heap.SameBut.update s.heap a (Obj.putSet es1 t1)
  split
  · have hp := relayAll_perm t1 es1 (SetTable.grown es1.size)
    have hfr := relayAll_fits t1 es1 (SetTable.grown es1.size)
    generalize hRl : relayAll t1 es1 (SetTable.grown es1.size) = Rl at hp hfr ⊢
    obtain ⟨es2, t2, gave2⟩ := Rl
    have T2 := relayAll_ok hRl
    dsimp only at hp hfr ⊢
    have sz2 : es2.size = es1.size := by
      have q := hp.length_eq
      rw [Array.length_toList, Array.length_toList] at q
      exact q
    refine wpAny_bind (gv _ _ _ (wpAny_bind (wpAny_storeSet_of ob1 rfl ?_ (fits_of_scanBound (by omega)))))
    have ob2 := put_get (es' := es2) (t' := t2) ob1 rfl
    exact wpAny_pure (hR _ _ es2 _ t2 _ (sb1.trans (Heap.SameBut.update _ a _)) ⟨ob2, S.ex, rfl, fun e he => good1 e (hp.mem_iff.mp he), rfl, ((hp.map kOf).nodup_iff).mpr nd1, by omega, hfr, T2.ok, T2.led.trans (T1.led.trans S.led)⟩ ((hp.map kOf).trans keys1))
  · exact wpAny_pure (hR _ _ es1 _ t1 _ sb1 ⟨ob1, S.ex, rfl, good1, rfl, nd1, small1, hfits, T1.ok, T1.led.trans S.led⟩ keys1)
theorem addHashed {a : Addr} {o : Obj} {es : Array (Int × Value)} {ep : Nat} {t : SetTable} {ks : List Int} {k : Int} {tk : Tok} {Q : Bool → Shared → Prop} (S : SetT w s.heap a o es ep t ks) (room : es.size + 1 < scanBound)
    (h : ∀ h' b o' es' ep' t' ks', Heap.SameBut a s.heap h' → SetT w h' a o' es' ep' t' ks' → (if k ∈ ks then ks' = ks else ks'.Perm (ks ++ [k])) → Q b { s with heap := h' }) :
    wpAny (model prog w) A (setAddHashed a (.int k tk) (hashInt k)) Q E s := by
  have hel : ElemsOf (intKind prog w) es.toList := elems_of S.good
  have hkey : (intKind prog w).is k (.int k tk) = true := by show Value.isInt k (.int k tk) = true; simp [Value.isInt]
  have hsc : (Value.int k tk).scannable = true := rfl
  have hfind : ∀ e ∈ es.toList, ((intKind prog w).is k e.2 = true ↔ k = kOf e) := fun e he => (S.good e he).is k
  unfold setAddHashed setAddHashedIn
  refine wpAny_holding (wpAny_bind (wpAny_setState_of S.ob S.dt S.fits ?_))
  dsimp only
  rw [byScan_of (knd := intKind prog w) hsc S.small hel, if_pos rfl]
  unfold setAddByScan
  refine wpAny_bind (wpAny_bind (wpAny_rule (wpAny_bind (wpAny_setScan_of (knd := intKind prog w) hkey S.ob S.dt S.fits hel ?_))))
  cases hr : List.findIdx? (fun e => (intKind prog w).is k e.2) es.toList with
  | some j =>
    dsimp only
    obtain ⟨hj, hpj, _⟩ := List.findIdx?_eq_some_iff_getElem.mp hr
    have hm : k ∈ ks := by
      rw [← S.keys, (hfind _ (List.getElem_mem hj)).mp hpj]
      exact List.mem_map_of_mem (List.getElem_mem hj)
    have es0 : s = { s with heap := s.heap } := by cases s; rfl
    refine wpAny_pure (wpAny_pure ?_)
    rw [es0]
    exact h s.heap false o es ep t ks (Heap.SameBut.refl a s.heap) S (by rw [if_pos hm])
  | none =>
    dsimp only
    have hm : k ∉ ks := fun q => by
      rw [← S.keys] at q
      obtain ⟨e, he, ek⟩ := List.mem_map.mp q
      have z := List.findIdx?_eq_none_iff.mp hr e he
      rw [(hfind e he).mpr ek.symm] at z
      cases z
    have hperm := layNew_perm t es (hashInt k) (.int k tk)
    have hfits := layNew_fits t es (hashInt k) (.int k tk)
    generalize hL : layNew t es (hashInt k) (.int k tk) = L at hperm hfits
    obtain ⟨es1, t1, wd, gave⟩ := L
    have T1 := layNew_ok S.tok hL
    dsimp only at hperm hfits ⊢
    rw [Array.toList_push] at hperm
    have good1 : ∀ e ∈ es1.toList, GoodE e := fun e he => by
      rcases List.mem_append.mp (hperm.mem_iff.mp he) with q | q
      · exact S.good e q
      · rw [List.mem_singleton] at q
        subst q
        exact good_new
    have keys1 : (es1.toList.map kOf).Perm (ks ++ [k]) := by
      have q := hperm.map kOf
      rw [List.map_append, S.keys] at q
      exact q
    have nd1 : (es1.toList.map kOf).Nodup := by
      rw [keys1.nodup_iff, List.nodup_append]
      refine ⟨S.nd, by simp, fun x hx y hy e => ?_⟩
      rw [List.mem_singleton] at hy
      subst hy
      exact hm (e ▸ hx)
    have sz1 : es1.size = es.size + 1 := by
      have q := hperm.length_eq
      rw [List.length_append, Array.length_toList, Array.length_toList] at q
      exact q
    have small1 : es1.size < scanBound := by omega
    have by8 : hashByValue 8 (Value.int k tk) = pure true := rfl
    have fin : ∀ h' o' es' ep' t' ks', Heap.SameBut a s.heap h' → SetT w h' a o' es' ep' t' ks' → ks'.Perm (ks ++ [k]) → Q true { s with heap := h' } := fun h' o' es' ep' t' ks' q1 q2 q3 => h h' true o' es' ep' t' ks' q1 q2 (by rw [if_neg hm]; exact q3)
    refine wpAny_bind ?_
    refine gave_way gave ?_
    split
    · rw [by8]
      refine wpAny_bind (wpAny_pure ?_)
      rw [if_pos rfl]
      exact add_tail (fun b s1 Q' q => gave_way b q) S T1 good1 keys1 nd1 small1 hfits fun h' o' es' ep' t' ks' q1 q2 q3 => wpAny_pure (fin h' o' es' ep' t' ks' q1 q2 q3)
    · refine wpAny_bind (wpAny_pure ?_)
      rw [if_pos rfl]
      exact add_tail (fun b s1 Q' q => gave_way b q) S T1 good1 keys1 nd1 small1 hfits fun h' o' es' ep' t' ks' q1 q2 q3 => wpAny_pure (fin h' o' es' ep' t' ks' q1 q2 q3)
end
end RvS
end
section
set_option Elab.async false
set_option linter.all false
set_option maxRecDepth 100000
/-! A walk over a set of ints, whatever the order it is told in. -/
namespace RvS
open PySem PySem.SetTable

theorem sit_next : Slot "set_iterator" "__next__" "set_iterator.__next__" :=
  .of (owner := "set_iterator") (n := "__next__") (by rw [typeLookup_type, builtinLookup_eq_fast]; kernel_rfl) (by decide +kernel) (by decide +kernel)
    (by decide +kernel) (by first | exact .inl (by decide +kernel) | exact .inr (by decide +kernel)) (by rw [isSubtype_type]; kernel_rfl)
theorem sit_entry : entryFor table "set_iterator.__next__" = some Builtin.«set_iterator.__next__» := entryFor_of_tree (by kernel_rfl)
theorem sit_owner : Manifest.owners.lookup (String.ofList ['r', 'o', 't', 'a', 'r', 'e', 't', 'i', '_', 't', 'e', 's'].reverse) = some Manifest.sig_set_iterator := by kernel_rfl
theorem sit_args (a : Value) : argsOk "set_iterator.__next__" ⟨[a], []⟩ := by
  unfold argsOk
  rw [signature?_of (id := "set_iterator.__next__") (n := ['_', '_', 't', 'x', 'e', 'n', '_', '_']) (o := ['r', 'o', 't', 'a', 'r', 'e', 't', 'i', '_', 't', 'e', 's']) (by kernel_rfl) sit_owner]
  kernel_rfl
theorem iter_entry : entryFor table "set.__iter__" = some Builtin.«frozenset.__iter__» :=
  entryFor_alias (id' := "frozenset.__iter__") (by kernel_rfl) rfl (by decide +kernel) (by kernel_rfl)

section
variable {prog : Program} {w : World} {A : Around} {E : Value → Shared → Prop} {s : Shared}
theorem wp_choose {src : Source} {n : Nat} {Q : Nat → Shared → Prop} (hn : n ≠ 0) (h : ∀ k, k < n → Q k { s with drawn := s.drawn.bump src }) : wpAny (model prog w) A (choose src n) Q E s := fun Γ p hΓ =>
  ⟨hn, h _ (Nat.mod_lt _ (Nat.pos_of_ne_zero hn))⟩
theorem eraseIdx_perm {α : Type} : ∀ {l : List α} {i : Nat} {x : α}, l[i]? = some x → (x :: l.eraseIdx i).Perm l
  | [], i, x, h => by simp at h
  | a :: l, 0, x, h => by
    have e : a = x := Option.some.inj h
    subst e
    exact List.Perm.refl _
  | a :: l, i + 1, x, h => by
    have h' : l[i]? = some x := by simpa using h
    show (x :: a :: l.eraseIdx i).Perm (a :: l)
    exact (List.Perm.swap a x _).trans ((eraseIdx_perm h').cons a)
theorem wp_draw {α : Type} : ∀ (n : Nat) (xs : List α) (s : Shared) (Q : List α → Shared → Prop), xs.length = n → (∀ ys d, ys.Perm xs → Q ys { s with drawn := d }) → wpAny (model prog w) A (drawOrder n xs) Q E s
  | 0, [], s, Q, _, h => by
    unfold drawOrder
    refine wpAny_pure ?_
    have e : s = { s with drawn := s.drawn } := by cases s; rfl
    rw [e]
    exact h [] s.drawn (List.Perm.refl _)
  | n + 1, [], s, Q, e, h => by cases e
  | n + 1, x :: xs, s, Q, e, h => by
    unfold drawOrder
    refine wpAny_bind (wp_choose (by simp) fun k hk => ?_)
    rw [List.getElem?_eq_getElem hk]
    dsimp only
    refine wpAny_bind (wp_draw n _ _ _ ?_ fun ys d hp => wpAny_pure ?_)
    · rw [List.length_eraseIdx, if_pos hk]
      simpa using e
    · exact h _ d ((hp.cons _).trans (eraseIdx_perm (List.getElem?_eq_getElem hk)))
theorem pick_go {α : Type} (f : Nat → Nat) : ∀ (fuel k : Nat) (left : List α) (out : Array α), left.length = fuel → (pickOrder.go f fuel k left out).toList.Perm (out.toList ++ left)
  | 0, k, left, out, e => by
    have : left = [] := List.length_eq_zero_iff.mp e
    subst this
    unfold pickOrder.go
    simp
  | fuel + 1, k, left, out, e => by
    unfold pickOrder.go
    have hp : 0 < left.length := by omega
    have hk : f k % left.length < left.length := Nat.mod_lt _ hp
    rw [List.getElem?_eq_getElem hk]
    dsimp only
    refine (pick_go f fuel (k + 1) _ _ (by rw [List.length_eraseIdx, if_pos hk]; omega)).trans ?_
    rw [Array.toList_push, List.append_assoc]
    exact List.Perm.append_left _ (eraseIdx_perm (List.getElem?_eq_getElem hk))
theorem pick_perm {α : Type} (f : Nat → Nat) (xs : Array α) : (pickOrder f xs).toList.Perm xs.toList := by
  unfold pickOrder
  have q := pick_go f xs.size 0 xs.toList #[] (by simp)
  simpa using q

def sitO (first : Value) (i : Nat) (a : Addr) (n ep : Nat) : Obj := { cls := .type "set_iterator", data := .fields #[first, .int i 0, .ref a, .int n 0, .int ep 0] }

/-- how the iterator finds its next: what its first field is, turn by turn -/
structure Steps (prog : Program) (w : World) (a : Addr) (o : Obj) (n ep : Nat) (fo : Nat → Value → Heap → Prop) (vs : List Value) : Prop where
  len : vs.length = n
  item : ∀ (A : Around) (E : Value → Shared → Prop) (s : Shared) (I : Addr) (i : Nat) (x first : Value) (Q : Option Value → Shared → Prop), vs[i]? = some x → s.heap.get? a = some o → s.heap.get? I = some (sitO first i a n ep) → a ≠ I → fo i first s.heap →
    (∀ h' first', Heap.SameBut I s.heap h' → h'.get? I = some (sitO first' (i + 1) a n ep) → fo (i + 1) first' h' → Q (some x) { s with heap := h' }) → wpAny (model prog w) A (pyNext (.ref I)) Q E s
  stop : ∀ (A : Around) (E : Value → Shared → Prop) (s : Shared) (I : Addr) (first : Value) (Q : Option Value → Shared → Prop), A.handled = none → s.heap.get? a = some o → s.heap.get? I = some (sitO first n a n ep) → a ≠ I → fo n first s.heap →
    (∀ h', Heap.ExtBut I s.heap h' → Q none { s with heap := h' }) → wpAny (model prog w) A (pyNext (.ref I)) Q E s
end
end RvS
end
section
set_option Elab.async false
set_option linter.all false
set_option maxRecDepth 100000
namespace RvS
open PySem PySem.SetTable
section
variable {prog : Program} {w : World} {A : Around} {E : Value → Shared → Prop} {s : Shared}

/-- what setNext hands back, the state as it was -/
def NextIs (prog : Program) (w : World) (a : Addr) (o : Obj) (ep sl i : Nat) (r : Option (Value × Nat)) : Prop :=
  ∀ (A : Around) (E : Value → Shared → Prop) (s : Shared) (Q : Option (Value × Nat) → Shared → Prop), s.heap.get? a = some o → Q r s → wpAny (model prog w) A (setNext a sl i ep) Q E s

theorem sit_set {h : Heap} {I a : Addr} {first first' : Value} {i n ep : Nat} (hI : h.get? I = some (sitO first i a n ep)) :
    ((h.update I (Obj.mapFields (·.setIfInBounds 0 first'))).update I (Obj.mapFields (·.setIfInBounds 1 (rawInt ((i : Int) + 1))))).get? I = some (sitO first' (i + 1) a n ep) := by
  have h1 := Heap.get?_update_self (Obj.mapFields (·.setIfInBounds 0 first')) hI (Obj.isFreed_of_fields (Obj.data_mapFields rfl _))
  have h2 := Heap.get?_update_self (Obj.mapFields (·.setIfInBounds 1 (rawInt ((i : Int) + 1)))) h1 (Obj.isFreed_of_fields (Obj.data_mapFields rfl _))
  exact h2

theorem next_int {a I : Addr} {o : Obj} {es : Array (Int × Value)} {ep n i sl nx : Nat} {t : SetTable} {x : Value} {Q : Option Value → Shared → Prop} (ho : s.heap.get? a = some o) (hd : o.data = .set es ep t) (hf : t.fits es.size = true) (hn : es.size = n)
    (hI : s.heap.get? I = some (sitO (.int sl 0) i a n ep)) (hne : a ≠ I) (hN : NextIs prog w a o ep sl i (some (x, nx)))
    (hQ : ∀ h', Heap.SameBut I s.heap h' → h'.get? I = some (sitO (.int nx 0) (i + 1) a n ep) → Q (some x) { s with heap := h' }) : wpAny (model prog w) A (pyNext (.ref I)) Q E s := by
  have hT : s.TypeIs (.ref I) "set_iterator" := ⟨_, hI, rfl⟩
  unfold pyNext
  refine wpAny_bind (wpAny_attempt (wpAny_callSpecial?_slot (name := Str.ofString "__next__") hT sit_next
    (wpAny_call_entry sit_next hT sit_entry ?_ (sit_args _))))
  unfold Builtin.«set_iterator.__next__»
  refine wpAny_bind (wpAny_pure ?_)
  refine wpAny_bind (wpAny_fieldsOf hI rfl ?_)
  dsimp only
  refine wpAny_bind (wpAny_setEntries_of ho hd hf ?_)
  rw [if_neg (by rw [hn]; simp)]
  refine wpAny_bind (hN _ _ _ _ ho ?_)
  dsimp only
  refine wpAny_bind (wpAny_setField hI rfl (by simp) ?_)
  have h1 := Heap.get?_update_self (Obj.mapFields (·.setIfInBounds 0 (rawInt nx))) hI (Obj.isFreed_of_fields (Obj.data_mapFields rfl _))
  refine wpAny_bind (wpAny_setField h1 rfl (by simp [sitO, Obj.mapFields]) ?_)
  exact wpAny_pure ⟨_, rfl, wpAny_pure (hQ _ ((Heap.SameBut.update ..).trans (Heap.SameBut.update ..)) (sit_set hI))⟩
theorem stop_raise {I : Addr} {oI : Obj} {vs : Array Value} (k : Nat) (v : Value) {Q : Option Value → Shared → Prop} {s : Shared} (hh : A.handled = none) (hI : s.heap.get? I = some oI) (hd : oI.data = .fields vs) (hk : k < vs.size)
    (hQ : ∀ h', Heap.ExtBut I s.heap h' → Q none { s with heap := h' }) :
    wpAny (model prog w) A.in1 (setField (.ref I) k v >>= fun _ => newExc (.type "StopIteration") [] >>= fun e => raiseNew e) (fun (fin : Fin) s' => ∃ r, fin = .done (.ret r) ∧ Q (some r) s')
      (fun e s' => wpAny (model prog w) A (isInstance e (.type "StopIteration")) (fun b s'' => b = true ∧ Q none s'') E s') s := by
  refine wpAny_bind (wpAny_setField hI hd hk (wpAny_bind ?_))
  simp only [newExc, newTuple]
  refine wpAny_bind (wpAny_newObj_type ?_ (by size_fits))
  refine wpAny_bind (m := firstArgMember _ _) (wpAny_of_eq (a := Value.none) (by first | rfl | (simp only [firstArgMember]; rfl)) ?_)
  refine wpAny_newObj_type ?_ (by size_fits)
  simp only [raiseNew]
  refine wpAny_bind (wpAny_handled ?_)
  rw [show A.in1.handled = none from hh]
  refine wpAny_bind (wpAny_pure (wpAny_throw ?_))
  exact wpAny_isInstance (T := "StopIteration") (b := true) ⟨_, Heap.get?_push_size _ rfl, rfl⟩ isSubtype_stop ⟨rfl, hQ _ (((Heap.SameBut.update ..).extBut.push _).push _)⟩

theorem stop_int {a I : Addr} {o : Obj} {es : Array (Int × Value)} {ep n i sl : Nat} {t : SetTable} {Q : Option Value → Shared → Prop} (hh : A.handled = none) (ho : s.heap.get? a = some o) (hd : o.data = .set es ep t) (hf : t.fits es.size = true) (hn : es.size = n)
    (hI : s.heap.get? I = some (sitO (.int sl 0) i a n ep)) (hN : NextIs prog w a o ep sl i none)
    (hQ : ∀ h', Heap.ExtBut I s.heap h' → Q none { s with heap := h' }) : wpAny (model prog w) A (pyNext (.ref I)) Q E s := by
  have hT : s.TypeIs (.ref I) "set_iterator" := ⟨_, hI, rfl⟩
  unfold pyNext
  refine wpAny_bind (wpAny_attempt (wpAny_callSpecial?_slot (name := Str.ofString "__next__") hT sit_next
    (wpAny_call_entry sit_next hT sit_entry ?_ (sit_args _))))
  unfold Builtin.«set_iterator.__next__»
  refine wpAny_bind (wpAny_pure ?_)
  refine wpAny_bind (wpAny_fieldsOf hI rfl ?_)
  dsimp only
  refine wpAny_bind (wpAny_setEntries_of ho hd hf ?_)
  rw [if_neg (by rw [hn]; simp)]
  refine wpAny_bind (hN _ _ _ _ ho ?_)
  dsimp only
  refine wpAny_mono (stop_raise (A := A) (E := E) 2 Value.none (Q := Q) hh hI rfl (by simp) hQ) (fun fin s' hfin => ?_) (fun e s' he => ?_)
  · obtain ⟨r, e1, q⟩ := hfin
    exact ⟨r, e1, wpAny_pure q⟩
  · refine wpAny_bind (wpAny_mono he (fun b s'' hb => ?_) fun _ _ z => z)
    rw [hb.1]
    exact wpAny_pure hb.2
theorem sit_set1 {h : Heap} {I a : Addr} {first : Value} {i n ep : Nat} (hI : h.get? I = some (sitO first i a n ep)) :
    (h.update I (Obj.mapFields (·.setIfInBounds 1 (rawInt ((i : Int) + 1))))).get? I = some (sitO first (i + 1) a n ep) :=
  Heap.get?_update_self (Obj.mapFields (·.setIfInBounds 1 (rawInt ((i : Int) + 1)))) hI (Obj.isFreed_of_fields (Obj.data_mapFields rfl _))
def plO (ps : List Nat) : Obj := { cls := .type "tuple", data := .seq (ps.map fun (i : Nat) => rawInt i).toArray }
theorem next_drawn {a I T : Addr} {o : Obj} {es : Array (Int × Value)} {ep n i p : Nat} {t : SetTable} {ps : List Nat} {e : Int × Value} {Q : Option Value → Shared → Prop} (ho : s.heap.get? a = some o) (hd : o.data = .set es ep t) (hf : t.fits es.size = true) (hn : es.size = n)
    (hI : s.heap.get? I = some (sitO (.ref T) i a n ep)) (hTp : s.heap.get? T = some (plO ps)) (hp : ps[i]? = some p) (he : es[p]? = some e)
    (hQ : ∀ h', Heap.SameBut I s.heap h' → h'.get? I = some (sitO (.ref T) (i + 1) a n ep) → Q (some e.2) { s with heap := h' }) : wpAny (model prog w) A (pyNext (.ref I)) Q E s := by
  have hT : s.TypeIs (.ref I) "set_iterator" := ⟨_, hI, rfl⟩
  unfold pyNext
  refine wpAny_bind (wpAny_attempt (wpAny_callSpecial?_slot (name := Str.ofString "__next__") hT sit_next
    (wpAny_call_entry sit_next hT sit_entry ?_ (sit_args _))))
  unfold Builtin.«set_iterator.__next__»
  refine wpAny_bind (wpAny_pure ?_)
  refine wpAny_bind (wpAny_fieldsOf hI rfl ?_)
  dsimp only
  refine wpAny_bind (wpAny_setEntries_of ho hd hf ?_)
  rw [if_neg (by rw [hn]; simp)]
  refine wpAny_bind (wpAny_seqItems hTp rfl ?_)
  dsimp only
  have e1 : ((ps.map fun (i : Nat) => rawInt i).toArray)[((i : Nat) : Int).toNat]? = some (rawInt p) := by simp [hp]
  rw [e1]
  show wpAny _ _ (setNextDrawn a p ep >>= _) _ _ s
  unfold setNextDrawn
  refine wpAny_bind (wpAny_bind (wpAny_setState_of ho hd hf ?_))
  dsimp only
  rw [if_neg (by simp)]
  rw [he]
  refine wpAny_pure ?_
  refine wpAny_bind (wpAny_setField hI rfl (by simp) ?_)
  exact wpAny_pure ⟨_, rfl, wpAny_pure (hQ _ (Heap.SameBut.update ..) (sit_set1 hI))⟩
theorem stop_drawn {a I T : Addr} {o : Obj} {es : Array (Int × Value)} {ep n i : Nat} {t : SetTable} {ps : List Nat} {Q : Option Value → Shared → Prop} (hh : A.handled = none) (ho : s.heap.get? a = some o) (hd : o.data = .set es ep t) (hf : t.fits es.size = true) (hn : es.size = n)
    (hI : s.heap.get? I = some (sitO (.ref T) i a n ep)) (hTp : s.heap.get? T = some (plO ps)) (hp : ps[i]? = none)
    (hQ : ∀ h', Heap.ExtBut I s.heap h' → Q none { s with heap := h' }) : wpAny (model prog w) A (pyNext (.ref I)) Q E s := by
  have hT : s.TypeIs (.ref I) "set_iterator" := ⟨_, hI, rfl⟩
  unfold pyNext
  refine wpAny_bind (wpAny_attempt (wpAny_callSpecial?_slot (name := Str.ofString "__next__") hT sit_next
    (wpAny_call_entry sit_next hT sit_entry ?_ (sit_args _))))
  unfold Builtin.«set_iterator.__next__»
  refine wpAny_bind (wpAny_pure ?_)
  refine wpAny_bind (wpAny_fieldsOf hI rfl ?_)
  dsimp only
  refine wpAny_bind (wpAny_setEntries_of ho hd hf ?_)
  rw [if_neg (by rw [hn]; simp)]
  refine wpAny_bind (wpAny_seqItems hTp rfl ?_)
  dsimp only
  have e1 : ((ps.map fun (i : Nat) => rawInt i).toArray)[((i : Nat) : Int).toNat]? = none := by simp [List.getElem?_eq_none_iff.mp hp]
  rw [e1]
  dsimp only
  refine wpAny_bind (wpAny_setField hI rfl (by simp) ?_)
  have h1 := Heap.get?_update_self (Obj.mapFields (·.setIfInBounds 0 (rawInt 0))) hI (Obj.isFreed_of_fields (Obj.data_mapFields rfl _))
  refine wpAny_mono (stop_raise (A := A) (E := E) 2 Value.none (Q := Q) hh h1 rfl (by simp [sitO, Obj.mapFields]) fun h' hx => ?_) (fun fin s' hfin => ?_) (fun e s' he => ?_)
  · exact hQ h' fun b ob hb eb => hx b ob hb ((Heap.get?_update_other _ _ (Ne.symm hb)).trans eb)
  · obtain ⟨r, e1, q⟩ := hfin
    exact ⟨r, e1, wpAny_pure q⟩
  · refine wpAny_bind (wpAny_mono he (fun b s'' hb => ?_) fun _ _ z => z)
    rw [hb.1]
    exact wpAny_pure hb.2

/-! ### the three orders -/
theorem go_if {α : Type} {c : Prop} [Decidable c] {x y : Sem α} {Q : α → Shared → Prop} {M : Model} (h : c) (k : wpAny M A x Q E s) : wpAny M A (if c then x else y) Q E s := by rw [if_pos h]; exact k
theorem go_no {α : Type} {c : Prop} [Decidable c] {x y : Sem α} {Q : α → Shared → Prop} {M : Model} (h : ¬ c) (k : wpAny M A y Q E s) : wpAny M A (if c then x else y) Q E s := by rw [if_neg h]; exact k
theorem not_tt {b : Bool} (h : b = false) : ¬ b = true := by rw [h]; exact Bool.false_ne_true
theorem next_text {a : Addr} {o : Obj} {es : Array (Int × Value)} {ep sl i : Nat} {t : SetTable} (hd : o.data = .set es ep t) (hf : t.fits es.size = true) (hb : byTextOf w = true) :
    NextIs prog w a o ep sl i (((pickOrder (w.params.setOrder a ep) es)[i]?).map fun e => (e.2, sl)) := by
  intro A E s Q ho q
  unfold setNext
  refine wpAny_bind (wpAny_setState_of ho hd hf ?_)
  dsimp only
  unfold setsByText
  refine wpAny_bind (wpAny_bind (wpAny_askSetting (wpAny_pure ?_)))
  refine go_if hb (go_no (not_tt (by simp)) ?_)
  unfold setWalk
  refine wpAny_bind (wpAny_bind (wpAny_setState_of ho hd hf ?_))
  dsimp only
  unfold setsByText
  refine wpAny_bind (wpAny_bind (wpAny_askSetting (wpAny_pure ?_)))
  refine go_if hb (wpAny_bind (wpAny_askSetting (wpAny_pure ?_)))
  exact wpAny_pure q
theorem next_table {a : Addr} {o : Obj} {es : Array (Int × Value)} {ep sl i : Nat} {t : SetTable} (hd : o.data = .set es ep t) (hf : t.fits es.size = true) (hb : byTextOf w = false) (hl : t.led = true) (hp : t.plain = true ∨ es.size ≤ 1) (hsl : below t.place sl = i) :
    NextIs prog w a o ep sl i (match es[i]?, t.place[i]? with | some (_, x), some j => some (x, j + 1) | _, _ => none) := by
  intro A E s Q ho q
  unfold setNext
  refine wpAny_bind (wpAny_setState_of ho hd hf ?_)
  dsimp only
  unfold setsByText
  refine wpAny_bind (wpAny_bind (wpAny_askSetting (wpAny_pure ?_)))
  have hdr : (!t.plain && decide (es.size > 1)) = false := by
    rcases hp with e | e
    · rw [e]; rfl
    · have : decide (es.size > 1) = false := decide_eq_false (by omega)
      rw [this, Bool.and_false]
  have hle : (!t.led && !es.isEmpty) = false := by rw [hl]; rfl
  refine go_no (not_tt hb) (go_no (not_tt hdr) ?_)
  refine wpAny_bind ?_
  refine go_no (not_tt hle) (wpAny_pure (wpAny_pure ?_))
  rw [hsl]
  exact q
end
end RvS
end
section
set_option Elab.async false
set_option linter.all false
set_option maxRecDepth 100000
namespace RvS
open PySem PySem.SetTable
theorem sit_iter : Slot "set_iterator" "__iter__" "set_iterator.__iter__" :=
  .of (owner := "set_iterator") (n := "__iter__") (by rw [typeLookup_type, builtinLookup_eq_fast]; kernel_rfl) (by decide +kernel) (by decide +kernel)
    (by decide +kernel) (by first | exact .inl (by decide +kernel) | exact .inr (by decide +kernel)) (by rw [isSubtype_type]; kernel_rfl)
theorem sit_iterE : entryFor table "set_iterator.__iter__" = some Builtin.«dict_keyiterator.__iter__» :=
  entryFor_alias (id' := "dict_keyiterator.__iter__") (by kernel_rfl) rfl (by decide +kernel) (by kernel_rfl)
theorem sit_iterA (a : Value) : argsOk "set_iterator.__iter__" ⟨[a], []⟩ := by
  unfold argsOk
  rw [signature?_of (id := "set_iterator.__iter__") (n := ['_', '_', 'r', 'e', 't', 'i', '_', '_']) (o := ['r', 'o', 't', 'a', 'r', 'e', 't', 'i', '_', 't', 'e', 's']) (by kernel_rfl) sit_owner]
  kernel_rfl

/-- the iterator's state at turn i -/
def SitAt (a I : Addr) (o : Obj) (n ep : Nat) (fo : Nat → Value → Heap → Prop) (i : Nat) (s : Shared) : Prop :=
  ∃ first, s.heap.get? a = some o ∧ s.heap.get? I = some (sitO first i a n ep) ∧ fo i first s.heap

section
variable {prog : Program} {w : World} {a I : Addr} {o : Obj} {n ep : Nat} {fo : Nat → Value → Heap → Prop} {vs : List Value} {fp : List Addr}
theorem walks_of (S : Steps prog w a o n ep fo vs) (hne : a ≠ I) (hI : I ∈ fp) (ha : a ∈ fp)
    (hfr : ∀ i first h h', fo i first h → (∀ b ∈ fp, ∀ o, h.get? b = some o → h'.get? b = some o) → fo i first h')
    {A : Around} (hh : A.handled = none) : WalksS prog w A I fp [I] Eq n (fun i v => vs[i]? = some v) (SitAt a I o n ep fo) where
  sub := fun b hb => by rw [List.mem_singleton] at hb; rw [hb]; exact hI
  grefl := fun _ => rfl
  gtrans := fun _ _ _ h1 h2 => h1.trans h2
  frame := fun i s h' tk ⟨first, h1, h2, h3⟩ _ hk => ⟨first, hk a ha _ h1, hk I hI _ h2, hfr i first _ _ h3 hk⟩
  item := fun i s Q E hi ⟨first, h1, h2, h3⟩ hQ => by
    have hl : i < vs.length := by rw [S.len]; exact hi
    refine S.item A E s I i vs[i] first Q (List.getElem?_eq_getElem hl) h1 h2 hne h3 fun h' first' sb q1 q2 => ?_
    refine hQ _ _ (List.getElem?_eq_getElem hl) ⟨first', ?_, q1, q2⟩ ⟨fun b ob hb e => ?_, rfl, rfl, rfl, Nat.le_refl _⟩
    · rw [sb.2 a hne]; exact h1
    · rw [List.mem_singleton] at hb
      rw [sb.2 b hb]
      exact e
  done := fun s Q E ⟨first, h1, h2, h3⟩ hQ => S.stop A E s I first Q hh h1 h2 hne h3 fun h' hx => hQ _ ⟨fun b ob hb e => hx b ob (by rw [List.mem_singleton] at hb; exact hb) e, rfl, rfl, rfl, Nat.le_refl _⟩
  self := fun i s Q E ⟨first, h1, h2, h3⟩ hQ => by
    have hT : s.TypeIs (.ref I) "set_iterator" := ⟨_, h2, rfl⟩
    refine wpAny_pyIter_slot hT sit_iter (wpAny_call_entry sit_iter hT sit_iterE ?_ (sit_iterA _))
    exact wpAny_pure ⟨_, rfl, "set_iterator", _, hT, sit_next.lookup, hQ⟩
end

section
variable {prog : Program} {w : World} {a : Addr} {o : Obj} {es : Array (Int × Value)} {ep : Nat} {t : SetTable}
theorem steps_text (hd : o.data = .set es ep t) (hf : t.fits es.size = true) (hb : byTextOf w = true) :
    Steps prog w a o es.size ep (fun _ first _ => ∃ sl : Nat, first = .int sl 0) ((pickOrder (w.params.setOrder a ep) es).toList.map (·.2)) where
  len := by rw [List.length_map, (pick_perm _ es).length_eq, Array.length_toList]
  item := fun A E s I i x first Q hx ho hI hne ⟨sl, e⟩ hQ => by
    subst e
    rw [List.getElem?_map] at hx
    cases e2 : (pickOrder (w.params.setOrder a ep) es).toList[i]? with
    | none => rw [e2] at hx; cases hx
    | some en =>
      rw [e2] at hx
      have ex : en.2 = x := Option.some.inj hx
      subst ex
      have N := next_text (prog := prog) (w := w) (a := a) (sl := sl) (i := i) hd hf hb
      rw [← Array.getElem?_toList, e2] at N
      exact next_int ho hd hf rfl hI hne N fun h' sb q => hQ h' _ sb q ⟨sl, rfl⟩
  stop := fun A E s I first Q hh ho hI hne ⟨sl, e⟩ hQ => by
    subst e
    have N := next_text (prog := prog) (w := w) (a := a) (sl := sl) (i := es.size) hd hf hb
    rw [← Array.getElem?_toList, List.getElem?_eq_none (by rw [(pick_perm _ es).length_eq, Array.length_toList]; exact Nat.le_refl _)] at N
    exact stop_int hh ho hd hf rfl hI N hQ
theorem steps_table (hd : o.data = .set es ep t) (hf : t.fits es.size = true) (hb : byTextOf w = false) (hl : t.led = true) (hp : t.plain = true ∨ es.size ≤ 1) (hr : Rise t.place) :
    Steps prog w a o es.size ep (fun i first _ => ∃ sl : Nat, first = .int sl 0 ∧ below t.place sl = i) (es.toList.map (·.2)) where
  len := by rw [List.length_map, Array.length_toList]
  item := fun A E s I i x first Q hx ho hI hne ⟨sl, e, hsl⟩ hQ => by
    subst e
    rw [List.getElem?_map, Array.getElem?_toList] at hx
    cases e2 : es[i]? with
    | none => rw [e2] at hx; cases hx
    | some en =>
      rw [e2] at hx
      have ex : en.2 = x := Option.some.inj hx
      subst ex
      have hlt : i < t.place.size := by
        have h1 := (Array.getElem?_eq_some_iff.mp e2).1
        simp only [SetTable.fits, Bool.and_eq_true, beq_iff_eq, decide_eq_true_eq] at hf
        omega
      have e3 : t.place[i]? = some t.place[i] := Array.getElem?_eq_getElem hlt
      have N := next_table (prog := prog) (w := w) (a := a) (sl := sl) (i := i) hd hf hb hl hp hsl
      rw [e2, e3] at N
      exact next_int ho hd hf rfl hI hne N fun h' sb q => hQ h' _ sb q ⟨_, rfl, below_next hr e3⟩
  stop := fun A E s I first Q hh ho hI hne ⟨sl, e, hsl⟩ hQ => by
    subst e
    have N := next_table (prog := prog) (w := w) (a := a) (sl := sl) (i := es.size) hd hf hb hl hp hsl
    rw [Array.getElem?_eq_none (Nat.le_refl _)] at N
    exact stop_int hh ho hd hf rfl hI N hQ
theorem steps_drawn (hd : o.data = .set es ep t) (hf : t.fits es.size = true) {T : Addr} {ps : List Nat} (hps : ps.Perm (List.range es.size)) :
    Steps prog w a o es.size ep (fun _ first h => first = .ref T ∧ h.get? T = some (plO ps)) (ps.map fun p => (es[p]?.map (·.2)).getD .none) where
  len := by rw [List.length_map, hps.length_eq, List.length_range]
  item := fun A E s I i x first Q hx ho hI hne ⟨e, hTp⟩ hQ => by
    subst e
    rw [List.getElem?_map] at hx
    cases e2 : ps[i]? with
    | none => rw [e2] at hx; cases hx
    | some p =>
      rw [e2] at hx
      have hpl : p < es.size := List.mem_range.mp (hps.mem_iff.mp (List.mem_of_getElem? e2))
      have e3 : es[p]? = some es[p] := Array.getElem?_eq_getElem hpl
      have ex : es[p].2 = x := by
        have := Option.some.inj hx
        dsimp only at this
        rw [e3] at this
        exact this
      subst ex
      have hTI : T ≠ I := fun q => by
        rw [q, hI] at hTp
        have := congrArg (fun z : Option Obj => z.map (·.cls)) hTp
        simp [sitO, plO] at this
      exact next_drawn ho hd hf rfl hI hTp e2 e3 fun h' sb q => hQ h' _ sb q ⟨rfl, by rw [sb.2 T hTI]; exact hTp⟩
  stop := fun A E s I first Q hh ho hI hne ⟨e, hTp⟩ hQ => by
    subst e
    exact stop_drawn hh ho hd hf rfl hI hTp (by rw [List.getElem?_eq_none_iff, hps.length_eq, List.length_range]; exact Nat.le_refl _) hQ
end

theorem drawn_vals {es : Array (Int × Value)} {ps : List Nat} (hps : ps.Perm (List.range es.size)) : (ps.map fun p => (es[p]?.map (·.2)).getD Value.none).Perm (es.toList.map (·.2)) := by
  refine (hps.map _).trans ?_
  have e : (List.range es.size).map (fun p => (es[p]?.map (·.2)).getD Value.none) = es.toList.map (·.2) := by
    apply List.ext_getElem?
    intro i
    rw [List.getElem?_map, List.getElem?_map, Array.getElem?_toList (xs := es)]
    by_cases h : i < es.size
    · rw [List.getElem?_range h, Array.getElem?_eq_getElem h]
      simp [h]
    · rw [List.getElem?_eq_none (l := List.range es.size) (by rw [List.length_range]; omega), Array.getElem?_eq_none (by omega)]
      rfl
  rw [e]

section
variable {prog : Program} {w : World} {A : Around} {E : Value → Shared → Prop} {s : Shared} {a : Addr} {o : Obj} {es : Array (Int × Value)} {ep : Nat} {t : SetTable} {ks : List Int}
/-- what stands behind iter(set) -/
structure Walked (prog : Program) (w : World) (s : Shared) (es : Array (Int × Value)) (I : Addr) (s2 : Shared) : Prop where
  ex : ∃ (vs : List Value) (fp : List Addr) (St : Nat → Shared → Prop), vs.Perm (es.toList.map (·.2)) ∧ (∀ A : Around, A.handled = none → WalksS prog w A I fp [I] Eq es.size (fun i v => vs[i]? = some v) St) ∧ St 0 s2 ∧ (∀ b ∈ fp, b < s2.heap.objs.size) ∧ I ∈ fp ∧ ∀ b ∈ fp, b < s.heap.objs.size → ∃ ob, s.heap.get? b = some ob ∧ ob.ExactSet
  ty : s2.TypeIs (.ref I) "set_iterator"
  old : ∀ b ob, s.heap.get? b = some ob → s2.heap.get? b = some ob
  new : s.heap.objs.size ≤ I
  rest : s2.gens = s.gens ∧ s2.os = s.os ∧ s2.toks = s.toks

theorem iter_set {Q : Value → Shared → Prop} (S : SetT w s.heap a o es ep t ks) (h : ∀ I s2, Walked prog w s es I s2 → Q (.ref I) s2) : wpAny (model prog w) A (pyIter (.ref a)) Q E s := by
  have hT : s.TypeIs (.ref a) "set" := ⟨o, S.ob, S.ex.1⟩
  have hlt : a < s.heap.objs.size := Heap.lt_size S.ob
  refine wpAny_pyIter_slot hT F.slot_set_iter (wpAny_call_entry F.slot_set_iter hT iter_entry ?_ (F.args_set_iter_1 _))
  unfold Builtin.«frozenset.__iter__» Builtin.Frozenset.slot0
  refine wpAny_bind (wpAny_bind (wpAny_pure ?_))
  show wpAny _ _ (Builtin.Frozenset.addrOf (.ref a)) _ _ s
  refine wpAny_pure ?_
  unfold Builtin.Frozenset.sizeOf
  refine wpAny_bind (wpAny_bind (wpAny_setEntries_of S.ob S.dt S.fits (wpAny_pure ?_)))
  unfold setDrawn
  refine wpAny_bind (wpAny_bind (wpAny_setState_of S.ob S.dt S.fits ?_))
  dsimp only
  unfold setsByText
  refine wpAny_bind (wpAny_bind (wpAny_askSetting (wpAny_pure (wpAny_pure ?_))))
  have fin : ∀ {E' : Value → Shared → Prop} (s1 : Shared) (first : Value) (fo : Nat → Value → Heap → Prop) (vs : List Value) (ext : List Addr), s1.heap.get? a = some o → s.heap.objs.size ≤ s1.heap.objs.size → (∀ b ob, s.heap.get? b = some ob → s1.heap.get? b = some ob) → (s1.gens = s.gens ∧ s1.os = s.os ∧ s1.toks = s.toks) →
      (∀ b ∈ ext, b < s1.heap.objs.size ∧ s.heap.objs.size ≤ b) → Steps prog w a o es.size ep fo vs → vs.Perm (es.toList.map (·.2)) →
      (∀ i f h h', fo i f h → (∀ b ∈ a :: ext, ∀ ob, h.get? b = some ob → h'.get? b = some ob) → fo i f h') → fo 0 first s1.heap →
      wpAny (model prog w) A.in1 (setEpoch a >>= fun q => newFields "set_iterator" [first, rawInt 0, Value.ref a, rawInt es.size, rawInt q] >>= fun v => ret v)
        (fun fin s' => ∃ v, fin = Fin.done (Flow.ret v) ∧ ∃ T' r, s'.TypeIs v T' ∧ typeLookup (Value.type T') (Str.ofString "__next__") = pure (some r) ∧ Q v s') E' s1 := by
    intro E' s1 first fo vs ext h1 h2 h3 h4 h5 h6 h7 h8 h9
    refine wpAny_bind (wpAny_setEpoch_of h1 S.dt S.fits ?_)
    refine wpAny_bind (wpAny_newObj_type ?_ (by size_fits))
    have hI : (s1.heap.push (sitO first 0 a es.size ep)).get? s1.heap.objs.size = some (sitO first 0 a es.size ep) := Heap.get?_push_size _ rfl
    have old : ∀ b ob, s1.heap.get? b = some ob → (s1.heap.push (sitO first 0 a es.size ep)).get? b = some ob := fun b ob e => Heap.get?_push_of_some _ e
    have hlt1 : a < s1.heap.objs.size := Heap.lt_size h1
    refine wpAny_pure ⟨_, rfl, "set_iterator", _, ⟨_, hI, rfl⟩, sit_next.lookup, ?_⟩
    refine h s1.heap.objs.size { s1 with heap := s1.heap.push (sitO first 0 a es.size ep) } ⟨⟨vs, s1.heap.objs.size :: a :: ext, SitAt a s1.heap.objs.size o es.size ep fo, h7, fun A' hh => ?_, ⟨first, old _ _ h1, hI, h8 0 first _ _ h9 fun b _ ob e => old b ob e⟩, fun b hb => ?_, List.mem_cons_self, fun b hb hbl => ?_⟩, ⟨_, hI, rfl⟩, fun b ob e => old b ob (h3 b ob e), h2, h4⟩
    · exact walks_of h6 (Nat.ne_of_lt hlt1) List.mem_cons_self (List.mem_cons_of_mem _ List.mem_cons_self) (fun i f h h' q k => h8 i f h h' q fun b hb => k b (List.mem_cons_of_mem _ hb)) hh
    · rw [Heap.size_push]
      rw [List.mem_cons] at hb
      rcases hb with rfl | hb
      · exact Nat.lt_succ_self _
      · rw [List.mem_cons] at hb
        rcases hb with rfl | hb
        · exact Nat.lt_succ_of_lt hlt1
        · exact Nat.lt_succ_of_lt (h5 b hb).1
    · rw [List.mem_cons] at hb
      rcases hb with rfl | hb
      · exact absurd hbl (Nat.not_lt.mpr h2)
      · rw [List.mem_cons] at hb
        rcases hb with rfl | hb
        · exact ⟨o, S.ob, S.ex⟩
        · exact absurd hbl (Nat.not_lt.mpr (h5 b hb).2)
  have sOld : s = { s with drawn := s.drawn } := by cases s; rfl
  by_cases hb : byTextOf w = true
  · have hb' : w.params.followText "set-order" = true := hb
    refine go_no (not_tt (by show (!w.params.followText "set-order" && _) = false; rw [hb']; rfl)) (wpAny_bind (wpAny_pure ?_))
    exact fin s (rawInt 0) _ _ [] S.ob (Nat.le_refl _) (fun _ _ e => e) ⟨rfl, rfl, rfl⟩ (fun _ hb => by cases hb) (steps_text S.dt S.fits hb) ((pick_perm _ es).map _) (fun i f h h' q _ => q) ⟨0, rfl⟩
  · have hb0 : byTextOf w = false := by cases e : byTextOf w with | false => rfl | true => exact absurd e hb
    have hb' : w.params.followText "set-order" = false := hb0
    have hled : t.led = true := by rw [S.led, hb0]; rfl
    by_cases hdr : (!t.plain && decide (es.size > 1)) = true
    · refine go_if (by show (!w.params.followText "set-order" && (!t.plain && decide (es.size > 1))) = true; rw [hb', hdr]; rfl) ?_
      refine wpAny_bind (wp_draw _ _ _ _ (by simp) fun ps d hps => ?_)
      unfold newTuple
      have hlen : ps.length = es.size := by rw [hps.length_eq, List.length_range]
      refine wpAny_bind (wpAny_newObj_type ?_ (by
        show (ps.map fun (i : Nat) => rawInt i).toArray.size ≤ sizeLine
        rw [List.size_toArray, List.length_map, hlen]
        exact fits_of_scanBound S.small))
      have oldT : ∀ b ob, s.heap.get? b = some ob → (s.heap.push (plO ps)).get? b = some ob := fun b ob e => Heap.get?_push_of_some _ e
      exact fin { s with heap := s.heap.push (plO ps), drawn := d } (.ref s.heap.objs.size) (fun _ f h => f = .ref s.heap.objs.size ∧ h.get? s.heap.objs.size = some (plO ps)) _ [s.heap.objs.size] (oldT _ _ S.ob) (by show _ ≤ (s.heap.push (plO ps)).objs.size; rw [Heap.size_push]; exact Nat.le_succ _) oldT ⟨rfl, rfl, rfl⟩
        (fun b hb => by rw [List.mem_singleton] at hb; subst hb; exact ⟨by show _ < (s.heap.push (plO ps)).objs.size; rw [Heap.size_push]; exact Nat.lt_succ_self _, Nat.le_refl _⟩) (steps_drawn S.dt S.fits hps) (drawn_vals hps)
        (fun i f h h' ⟨q1, q2⟩ k => ⟨q1, k _ (by simp) _ q2⟩) ⟨rfl, Heap.get?_push_size _ rfl⟩
    · have hdr0 : (!t.plain && decide (es.size > 1)) = false := by cases e : (!t.plain && decide (es.size > 1)) with | false => rfl | true => exact absurd e hdr
      refine go_no (not_tt (by show (!w.params.followText "set-order" && (!t.plain && decide (es.size > 1))) = false; rw [hdr0, Bool.and_false])) (wpAny_bind (wpAny_pure ?_))
      have hp : t.plain = true ∨ es.size ≤ 1 := by
        cases e : t.plain with
        | true => exact .inl rfl
        | false =>
          rw [e] at hdr0
          have := of_decide_eq_false (show decide (es.size > 1) = false by simpa using hdr0)
          exact .inr (by omega)
      have hr : Rise t.place := by
        rcases hp with e | e
        · exact S.tok.rs e
        · intro i j x y hij hx hy
          have h1 := (Array.getElem?_eq_some_iff.mp hy).1
          have hf := S.fits
          simp only [SetTable.fits, Bool.and_eq_true, beq_iff_eq, decide_eq_true_eq] at hf
          omega
      exact fin s (rawInt 0) _ _ [] S.ob (Nat.le_refl _) (fun _ _ e => e) ⟨rfl, rfl, rfl⟩ (fun _ hb => by cases hb) (steps_table S.dt S.fits hb0 hled hp hr) (List.Perm.refl _) (fun i f h h' q _ => q) ⟨0, rfl, below_first hr⟩
end
end RvS
end
section
set_option Elab.async false
set_option linter.all false
set_option maxRecDepth 100000
namespace RvS
open PySem PySem.SetTable PyProof.Rows
section
variable {prog : Program} {w : World} {A : Around} {E : Value → Shared → Prop} {s : Shared} {a : Addr} {o : Obj} {es : Array (Int × Value)} {ep : Nat} {t : SetTable} {ks : List Int}
theorem set_isa : isSubtype (.type "set") (.type "set") = pure true := by rw [isSubtype_type]; kernel_rfl
theorem hint_set {Q : Bool → Shared → Prop} (hT : s.TypeIs (.ref a) "set") (h : Q false s) : wpAny (model prog w) A (Builtin.List.listLengthHint (.ref a)) Q E s := by
  unfold Builtin.List.listLengthHint
  refine wpAny_bind (wpAny_specialOf hT F.slot_set_len.lookup ?_)
  dsimp only
  have e1 : splitId "set.__len__" = some ("set", "__len__") := by decide +kernel
  rw [e1]
  dsimp only
  refine wpAny_bind (wpAny_isInstance hT set_isa ?_)
  refine go_no (not_tt rfl) ?_
  refine go_if (by decide +kernel) ?_
  refine wpAny_bind (wpAny_typeOf hT ?_)
  dsimp only
  exact wpAny_pure h

/-- collect(set): its values in some order, old objects as they were -/
theorem collect_set {Q : List Value → Shared → Prop} (hh : A.handled = none) (S : SetT w s.heap a o es ep t ks)
    (h : ∀ (xs : List Value) (s' : Shared), xs.Perm (es.toList.map (·.2)) → (∀ b ob, s.heap.get? b = some ob → s'.heap.get? b = some ob) → s.heap.objs.size ≤ s'.heap.objs.size → s'.gens = s.gens → s'.os = s.os → Q xs s') :
    wpAny (model prog w) A (collect (.ref a)) Q E s := by
  unfold collect
  refine wpAny_bind (wpAny_runValue (codeAny_builtin F.entry_proto_collect ?_))
  rw [Around.under_plainId F.plain_proto_collect _]
  show wpAny _ A.in1 (newList [] >>= fun l => again (.builtin "list.__iadd__" ⟨[l, .ref a], []⟩)) _ _ s
  refine wpAny_bind (wpAny_newObj_type ?_)
  refine wpAny_pure ⟨plainId_quiet F.plain_list_iadd _, codeAny_builtin F.entry_list_iadd ?_⟩
  rw [Around.under_plainId F.plain_list_iadd _]
  have hlt : a < s.heap.objs.size := Heap.lt_size S.ob
  have hL1 : (s.heap.push { cls := .type "list", data := .seq ([] : List Value).toArray }).get? s.heap.objs.size = some { cls := .type "list", data := .seq ([] : List Value).toArray } := Heap.get?_push_size _ rfl
  have old1 : ∀ b ob, s.heap.get? b = some ob → (s.heap.push { cls := .type "list", data := .seq ([] : List Value).toArray }).get? b = some ob := fun b ob e => Heap.get?_push_of_some _ e
  generalize hh1 : s.heap.push { cls := .type "list", data := .seq ([] : List Value).toArray } = h1 at hL1 old1
  have hs1 : h1.objs.size = s.heap.objs.size + 1 := by rw [← hh1, Heap.size_push]
  generalize hLe : s.heap.objs.size = L at hL1 hlt hs1
  have S1 : SetT w h1 a o es ep t ks := { S with ob := old1 _ _ S.ob }
  show wpAny _ A.in1 (Builtin.List.listExtendWith (.ref L) (.ref a) (.ref L)) _ _ { s with heap := h1 }
  unfold Builtin.List.listExtendWith
  have hT : Shared.TypeIs { s with heap := h1 } (.ref a) "set" := ⟨o, S1.ob, S1.ex.1⟩
  refine wpAny_bind (wpAny_typeOf hT ?_)
  have n1 : Builtin.List.listSameRef (.ref L) (.ref a) = false := by
    have : ¬ L = a := fun e => by rw [e] at hlt; exact Nat.lt_irrefl _ hlt
    simp [Builtin.List.listSameRef, this]
  refine go_no (not_tt (by rw [n1]; decide)) ?_
  refine wpAny_bind (iter_set (s := { s with heap := h1 }) S1 fun I s2 W => ?_)
  refine wpAny_bind (wpAny_holding (hint_set ⟨o, W.old _ _ S1.ob, S1.ex.1⟩ ?_))
  refine go_if (by decide +kernel) ?_
  refine wpAny_bind (wpAny_rule ?_)
  obtain ⟨vs, fp, St, hperm, hw, hst, hfp, hI, hap⟩ := W.ex
  have hL2 := W.old _ _ hL1
  have hLI : L ≠ I := fun e => by
    have q : h1.objs.size ≤ I := W.new
    rw [hs1, ← e] at q
    exact Nat.lt_irrefl _ q
  have hLf : L ∉ fp := fun hm => by
    obtain ⟨ob, e1, e2⟩ := hap L hm (by show L < h1.objs.size; rw [hs1]; exact Nat.lt_succ_self _)
    have e3 : h1.get? L = some ob := e1
    rw [hL1] at e3
    have e4 := Option.some.inj e3
    have e5 := e2.1
    rw [← e4] at e5
    exact absurd e5 (by decide)
  refine wpAny_bind ?_
  show wpAny _ A.in1 (updateSeq L (·.push .none) >>= fun _ => updateSeq L (·.pop)) _ _ s2
  refine wpAny_bind (wpAny_updateSeq hL2 rfl ?_)
  have hL3 := Heap.get?_update_self (Obj.mapSeq (·.push Value.none)) hL2 rfl
  refine wpAny_updateSeq hL3 rfl ?_
  have hL4 := Heap.get?_update_self (Obj.mapSeq (·.pop)) hL3 rfl
  have oth : ∀ b ob, b ≠ L → s2.heap.get? b = some ob → ((s2.heap.update L (Obj.mapSeq (·.push Value.none))).update L (Obj.mapSeq (·.pop))).get? b = some ob := fun b ob hb e =>
    (Heap.get?_update_other _ _ (Ne.symm hb)).trans ((Heap.get?_update_other _ _ (Ne.symm hb)).trans e)
  have hW := hw A.in1 (by show A.in1.handled = none; simpa using hh)
  refine wpAny_pure ⟨plainId_quiet F.plain_extend_loop _, codeAny_extend_loopS hW (fits_of_scanBound S.small) L hLf _ es.size 0 _ _ _ rfl (Nat.zero_le _) (hW.frame 0 s2 _ s2.toks hst (Nat.le_refl _) fun b hb ob e => oth b ob (fun q => hLf (q ▸ hb)) e) hL4 (ItemsOf.nil _) fun s' acc c hm hL5 hacc => ?_⟩
  show wpAny _ A (load L >>= _) _ _ s'
  refine wpAny_bind (wpAny_load hL5 ?_)
  have eacc : acc.toList = vs := by
    apply List.ext_getElem?
    intro j
    rw [Array.getElem?_toList]
    by_cases hj : j < acc.size
    · rw [Array.getElem?_eq_getElem hj]
      exact (hacc.2 j _ (Array.getElem?_eq_getElem hj)).symm
    · rw [Array.getElem?_eq_none (by omega), List.getElem?_eq_none]
      have q : vs.length = es.size := by have q0 := hperm.length_eq; simpa using q0
      have q2 : acc.size = es.size := hacc.1
      omega
  refine wpAny_pure (h _ s' (by show acc.toList.Perm _; rw [eacc]; exact hperm) (fun b ob e => ?_) ?_ ?_ ?_)
  · have hbl := Heap.lt_size e
    have hbL : b ≠ L := fun q => by rw [q, ← hLe] at hbl; exact Nat.lt_irrefl _ hbl
    have hbI : b ≠ I := fun q => by
      have q1 : h1.objs.size ≤ I := W.new
      rw [hs1, ← q, ← hLe] at q1
      exact absurd hbl (Nat.not_lt.mpr (Nat.le_of_succ_le q1))
    exact hm.heap b ob (by simp [hbL, hbI]) (oth b ob hbL (W.old _ _ (old1 _ _ e)))
  · rw [hLe]
    exact Nat.le_of_lt (Heap.lt_size hL5)
  · exact hm.gens.symm.trans W.rest.1
  · exact hm.os.trans W.rest.2.1

theorem ints_of {l : List (Int × Value)} (g : ∀ e ∈ l, GoodE e) : IntsAre (l.map (·.2)) (l.map kOf) := by
  induction l with
  | nil => exact .nil
  | cons e l ih =>
    obtain ⟨_, t, ht⟩ := g e (by simp)
    have q := ih fun x hx => g x (List.mem_cons_of_mem _ hx)
    rw [List.map_cons, List.map_cons, ht]
    exact .cons _ _ q
theorem ints_perm {xs ys : List Value} {ns : List Int} (hp : xs.Perm ys) (h : IntsAre ys ns) : ∃ ms, IntsAre xs ms ∧ ms.Perm ns := by
  induction hp generalizing ns with
  | nil => exact ⟨ns, h, List.Perm.refl _⟩
  | cons x _ ih =>
    cases h with
    | cons k tk h2 =>
      obtain ⟨ms, a1, a2⟩ := ih h2
      exact ⟨_ :: ms, .cons _ _ a1, a2.cons _⟩
  | swap x y l =>
    cases h with
    | cons k1 t1 h2 =>
      cases h2 with
      | cons k2 t2 h4 => exact ⟨_ :: _ :: _, .cons _ _ (.cons _ _ h4), List.Perm.swap ..⟩
  | trans _ _ ih1 ih2 =>
    obtain ⟨ms, a1, a2⟩ := ih2 h
    obtain ⟨ms2, b1, b2⟩ := ih1 a1
    exact ⟨ms2, b1, b2.trans a2⟩

/-- sorted(set): its ints, rising -/
theorem sorted_set {Q : Value → Shared → Prop} (hh : A.handled = none) (S : SetT w s.heap a o es ep t ks) (h64 : ks.length < 64)
    (h : ∀ (out : Array Value) (ns' : List Int) (L c : Nat) (s' : Shared), IntsAre out.toList ns' → ns'.Perm ks → ns'.Pairwise (· ≤ ·) → (∀ b ob, s.heap.get? b = some ob → s'.heap.get? b = some ob) → s.heap.objs.size ≤ L → s'.gens = s.gens → s'.os = s.os →
      s'.heap.get? L = some { cls := .type "list", data := .seq out c } → Q (.ref L) s') :
    wpAny (model prog w) A (call (.builtin "sorted") [.ref a]) Q E s := by
  refine Calls.call_function_entry kind_sorted plain_sorted entry_sorted (args_sorted1 _) ?_
  unfold Builtin.«sorted»
  refine wpAny_bind (m := checkCount "sorted" 1 1 _) (wpAny_pure ?_)
  refine wpAny_bind (collect_set (by simpa using hh) S fun xs s1 hp old hsz hg ho1 => ?_)
  obtain ⟨ms, hI, hms⟩ := ints_perm hp (ints_of S.good)
  rw [S.keys] at hms
  have hlen : xs.length < 64 := by
    have q := hms.length_eq
    have q2 := IntsAre.length hI
    omega
  refine wpAny_bind (wpAny_newList ?_)
  have hoL : (s1.heap.push (seqObj "list" xs.toArray 0)).get? s1.heap.objs.size = some (seqObj "list" xs.toArray 0) := Heap.get?_push_size _ rfl
  have old1 : ∀ b ob, s1.heap.get? b = some ob → (s1.heap.push (seqObj "list" xs.toArray 0)).get? b = some ob := fun b ob e => Heap.get?_push_of_some _ e
  show wpAny _ _ _ _ _ { s1 with heap := s1.heap.push (seqObj "list" xs.toArray 0) }
  refine wpAny_bind (wpAny_holding (wpAny_call_entry slot_list_sort ⟨_, hoL, rfl⟩ entry_list_sort (list_sort_tree hoL hI hlen fun out ns' a1 a2 a3 => ⟨_, rfl, ?_⟩) (args_list_sort _)))
  refine wpAny_pure ⟨_, rfl, ?_⟩
  obtain ⟨c, hc⟩ := sortedHeap_at (vs := xs) (out := out) hoL
  refine h out ns' _ c _ a1 (a2.trans hms) a3 (fun b ob e => ?_) hsz hg ho1 hc
  have hb := Heap.lt_size (old b ob e)
  rw [sortedHeap_old (Nat.ne_of_lt hb) (Heap.lt_size (old1 _ _ (old b ob e)))]
  exact old1 _ _ (old b ob e)
end
end RvS
end
section
set_option Elab.async false
set_option linter.all false
set_option maxRecDepth 100000
/-! set(xs) of a list of ints, its table kept in order. -/
namespace RvS
open PySem PySem.SetTable PyProof.Rows

/-- the ints met so far, each once, in some order -/
def Met (val : Nat → Int) (i : Nat) (ks : List Int) : Prop := ks.Nodup ∧ (∀ k, k ∈ ks ↔ ∃ j, j < i ∧ val j = k) ∧ ks.length ≤ i
theorem Met.zero (val : Nat → Int) : Met val 0 [] := ⟨by simp, fun k => by simp, Nat.le_refl _⟩
theorem Met.old {val : Nat → Int} {i : Nat} {ks : List Int} (M : Met val i ks) (h : val i ∈ ks) : Met val (i + 1) ks := by
  refine ⟨M.1, fun k => ?_, by have := M.2.2; omega⟩
  rw [M.2.1]
  constructor
  · rintro ⟨j, hj, e⟩
    exact ⟨j, by omega, e⟩
  · rintro ⟨j, hj, e⟩
    by_cases q : j = i
    · subst q
      rw [← M.2.1, ← e]
      exact h
    · exact ⟨j, by omega, e⟩
theorem Met.new {val : Nat → Int} {i : Nat} {ks ks' : List Int} (M : Met val i ks) (h : val i ∉ ks) (hp : ks'.Perm (ks ++ [val i])) : Met val (i + 1) ks' := by
  refine ⟨?_, fun k => ?_, ?_⟩
  · rw [hp.nodup_iff, List.nodup_append]
    refine ⟨M.1, by simp, fun x hx y hy e => ?_⟩
    rw [List.mem_singleton] at hy
    subst hy
    exact h (e ▸ hx)
  · rw [hp.mem_iff, List.mem_append, List.mem_singleton, M.2.1]
    constructor
    · rintro (⟨j, hj, e⟩ | e)
      · exact ⟨j, by omega, e⟩
      · exact ⟨i, by omega, e.symm⟩
    · rintro ⟨j, hj, e⟩
      by_cases q : j = i
      · subst q
        exact .inr e.symm
      · exact .inl ⟨j, by omega, e⟩
  · have := hp.length_eq
    have := M.2.2
    rw [List.length_append] at *
    simp at *
    omega

def SetI (w : World) (h : Heap) (a : Addr) (ks : List Int) : Prop := ∃ o es ep t, SetT w h a o es ep t ks
theorem SetI.at {w : World} {h h' : Heap} {a : Addr} {ks : List Int} (S : SetI w h a ks) (k : ∀ o, h.get? a = some o → h'.get? a = some o) : SetI w h' a ks := by
  obtain ⟨o, es, ep, t, S⟩ := S
  exact ⟨o, es, ep, t, { S with ob := k _ S.ob }⟩
def newO (w : World) : Obj := { cls := .type "set", dict := none, data := .set #[] 0 (.fresh 0 0 (!(byTextOf w))) }
theorem new_ok {w : World} {h : Heap} {a : Addr} (e : h.get? a = some (newO w)) : SetI w h a [] :=
  ⟨_, #[], 0, _, e, ⟨rfl, rfl, rfl⟩, rfl, fun e he => by simp at he, rfl, by simp, by decide, rfl, ⟨rfl, fun _ i j x y _ hx _ => by simp [SetTable.fresh] at hx⟩, rfl⟩

section
variable {prog : Program} {w : World} {A : Around} {R : Result → Shared → Prop} {I : Addr} {fp wr : List Addr} {G : Array GenState → Array GenState → Prop} {n : Nat} {P : Nat → Value → Prop} {St : Nat → Shared → Prop}
theorem fill_loop (W : WalksS prog w A.in1 I fp wr G n P St) (Z : Addr) (hZ : Z ∉ fp) (val : Nat → Int) (hval : ∀ i v, P i v → ∃ t, v = .int (val i) t) (hb : n + 1 < scanBound) :
    ∀ (k i : Nat) (s : Shared) (ks : List Int), n - i = k → i ≤ n → St i s → SetI w s.heap Z ks → Met val i ks →
      (∀ s' ks', Moved (Z :: wr) G s s' → SetI w s'.heap Z ks' → Met val n ks' → R (.ok (.ret .none)) s') →
      codeAny (model prog w) A (.builtin "set.update.loop" ⟨[.ref Z, .ref I], []⟩) R s := by
  have hZw : Z ∉ wr := fun q => hZ (W.sub _ q)
  have sub2 : ∀ b ∈ wr, b ∈ Z :: wr := fun b q => List.mem_cons_of_mem _ q
  intro k
  induction k with
  | zero =>
    intro i s ks hk hi hst hS M hR
    have ei : i = n := by omega
    subst ei
    refine codeAny_builtin F.entry_set_update_loop ?_
    rw [Around.under_plainId F.plain_set_update_loop _]
    show wpAny _ A.in1 (pyNext (.ref I) >>= _) _ _ s
    refine wpAny_bind (W.done s _ _ hst fun s' hm => wpAny_pure (hR s' ks (hm.mono sub2) (hS.at fun o e => hm.heap Z o hZw e) M))
  | succ k ih =>
    intro i s ks hk hi hst hS M hR
    have hlt : i < n := by omega
    refine codeAny_builtin F.entry_set_update_loop ?_
    rw [Around.under_plainId F.plain_set_update_loop _]
    show wpAny _ A.in1 (pyNext (.ref I) >>= _) _ _ s
    refine wpAny_bind (W.item i s _ _ hlt hst fun v s1 hP hst1 hm => ?_)
    obtain ⟨t, rfl⟩ := hval i v hP
    obtain ⟨o, es, ep, tb, S⟩ := hS.at fun o e => hm.heap Z o hZw e
    show wpAny _ A.in1 (holding [Value.int (val i) t] (setAdd Z (.int (val i) t)) >>= _) _ _ s1
    refine wpAny_bind (wpAny_holding ?_)
    unfold setAdd
    refine wpAny_holding (wpAny_bind ((intKind prog w).pyHash (k := val i) (intKind_is _ _ _ _) ?_))
    have sz : es.size = ks.length := by rw [← S.keys, List.length_map, Array.length_toList]
    have ml := M.2.2
    refine addHashed (s := { s1 with toks := s1.toks + 1 }) S (by rw [sz]; omega) fun h' b o' es' ep' t' ks' sb S' hk' => ?_
    have M' : Met val (i + 1) ks' := by
      by_cases q : val i ∈ ks
      · rw [if_pos q] at hk'
        subst hk'
        exact M.old q
      · rw [if_neg q] at hk'
        exact M.new q hk'
    refine wpAny_pure ⟨plainId_quiet F.plain_set_update_loop _, ih (i + 1) _ ks' (by omega) hlt (W.frame _ s1 _ _ hst1 (Nat.le_succ _) fun b hb o e => ?_) ⟨o', es', ep', t', S'⟩ M' fun s2 ks2 hm2 S2 M2 => ?_⟩
    · rw [sb.2 b (fun q : b = Z => hZ (by rw [← q]; exact hb))]
      exact e
    · refine hR s2 ks2 (Moved.trans W.gtrans ((hm.mono sub2).then_heap (Nat.le_succ _) fun b o hb e => ?_) hm2) S2 M2
      rw [sb.2 b (fun q : b = Z => hb (by rw [q]; exact List.mem_cons_self))]
      exact e
end

section
variable {prog : Program} {w : World} {A : Around} {E : Value → Shared → Prop} {s : Shared}
theorem made_set (a : Value) {Q : Value → Shared → Prop} (h : Q (.ref s.heap.objs.size) { s with heap := s.heap.push (newO w) }) :
    codeAny (model prog w) A (.call (.builtin "set.__new__") ⟨[.type "set", a], []⟩) (wants Q E) s := by
  refine codeAny_of_tree ?_
  show wpAny _ A.in1 (do checkBuiltinCall "set.__new__" ⟨[.type "set", a], []⟩; again (.builtin "set.__new__" ⟨[.type "set", a], []⟩)) _ _ s
  refine wpAny_bind (wpAny_of_eq (F.newCall_set_1 a) (wpAny_pure ⟨plainId_quiet F.plain_set_new _, codeAny_builtin F.entry_set_new ?_⟩))
  rw [Around.under_plainId F.plain_set_new _]
  unfold Builtin.«set.__new__» Builtin.Frozenset.newClass
  have hsub := sub_set_self
  obtain ⟨hp, g, d, tk, os⟩ := s
  dsimp only
  wp_walk
  refine wpAny_askSetting (wpAny_pure ?_)
  dsimp only
  simp only [newObj]
  refine wpAny_bind (wpAny_alloc (wpAny_pure (wpAny_pure h)))
set_option maxHeartbeats 3200000 in
theorem call_set {l : Addr} {items : Array Value} {ns : List Int} {Q : Value → Shared → Prop} (hh : A.handled = none) (hl : s.heap.IsList l items) (hi : IntsAre items.toList ns) (hb : items.size + 1 < scanBound)
    (h : ∀ (h' : Heap) (tk : Nat) (ks : List Int), SetI w h' s.heap.objs.size ks → Met (fun i => ns.getD i 0) items.size ks → (∀ b o, s.heap.get? b = some o → h'.get? b = some o) → Q (.ref s.heap.objs.size) { s with heap := h', toks := tk }) :
    wpAny (model prog w) A (call (.type "set") [.ref l]) Q E s := by
  obtain ⟨c, tl, hmro⟩ := F.called_set.mro
  have hmade := F.called_set.made
  have hsub := F.called_set.sub
  refine wpAny_call (codeAny_of_tree ?_)
  show wpAny _ _ (callAny (.type "set") _) _ _ _
  refine wpAny_pure ⟨Code.quiet_builtin _ (by decide +kernel), codeAny_builtin F.entry_type_call ?_⟩
  rw [Around.under_plain (weight_type_call_type "set" [.ref l] []) rfl]
  have h1 := F.called_set.notType
  have h2 := F.called_set.canCreate
  have hct := F.typeCall_set_1 (.ref l)
  repeat (any_goals (first | assumption | wp_step))
  refine codeAny_mono (made_set (.ref l) (E := E) (Q := fun ob s1 => ob = .ref s.heap.objs.size ∧ s1 = { s with heap := s.heap.push (newO w) }) ⟨rfl, rfl⟩) fun r s1 hr => ?_
  cases r with
  | error e => exact hr
  | ok fl =>
    cases fl with
    | ret ob =>
      obtain ⟨rfl, rfl⟩ := hr
      have hZ : (s.heap.push (newO w)).get? s.heap.objs.size = some (newO w) := Heap.get?_push_size _ rfl
      have hT : Shared.TypeIs { s with heap := s.heap.push (newO w) } (.ref s.heap.objs.size) "set" := ⟨_, hZ, rfl⟩
      have hli := F.called_set.init.lookup
      have hbi := F.called_set.init.bind (.ref s.heap.objs.size)
      repeat (any_goals (first | assumption | wp_step))
      refine codeAny_mono (codeAny_call_builtin (R := wants (fun r s2 => r = .none ∧ ∃ h' tk ks, s2 = { s with heap := h', toks := tk } ∧ SetI w h' s.heap.objs.size ks ∧ Met (fun i => ns.getD i 0) items.size ks ∧ (∀ b o, s.heap.get? b = some o → h'.get? b = some o)) E)
        F.called_set.init.plain F.entry_set_init (check_set_init_1 hT ?_)) fun r2 s2 hr2 => ?_
      · obtain ⟨ol, hol, hcl, nl, hdl⟩ := hl
        obtain ⟨ocls, odict, odata, oslots⟩ := ol
        simp only at hcl hdl
        subst hcl; subst hdl
        have hol' : (s.heap.push (newO w)).get? l = some { cls := .type "list", dict := odict, data := .seq items nl, slots := oslots } := Heap.get?_push_of_some _ hol
        have hsls := F.sub_list_set
        have hslf := F.sub_list_frozenset
        have hne : (Value.type "list" == Value.type "dict") = false := by decide
        have hl1 : (s.heap.push (newO w)).IsList l items := ⟨_, hol', rfl, nl, rfl⟩
        unfold Builtin.«set.__init__» noKeywords Builtin.Frozenset.updateFrom
        generalize hPI : pyIter = PI
        wp_walk
        subst hPI
        refine wpAny_pyIter_list hl1 (wpAny_bind (wpAny_runValue ?_))
        have hlS : l < s.heap.objs.size := Heap.lt_size hol
        have hh3 : A.in1.in1.in1.handled = none := by simp [hh]
        have hneI : l ≠ (s.heap.push (newO w)).objs.size := by rw [Heap.size_push]; exact Nat.ne_of_lt (Nat.lt_succ_of_lt hlS)
        have hSf : s.heap.objs.size ∉ [(s.heap.push (newO w)).objs.size, l] := by
          rw [Heap.size_push]
          simp only [List.mem_cons, List.not_mem_nil, or_false, not_or]
          exact ⟨Nat.ne_of_lt (Nat.lt_succ_self _), Nat.ne_of_gt hlS⟩
        have hval : ∀ (i : Nat) (v : Value), items[i]? = some v → ∃ t, v = .int ((fun i => ns.getD i 0) i) t := fun i v hv => IntsAre.int_at hi i v (by rw [Array.getElem?_toList]; exact hv)
        refine fill_loop ((Walks.list hh3 _ l hneI items).toS) s.heap.objs.size hSf (fun i => ns.getD i 0) hval hb (items.size - 0) 0 _ [] (by omega) (Nat.zero_le _) ⟨⟨_, Heap.get?_push_size _ rfl, rfl, rfl⟩, hl1.push _⟩ (new_ok (Heap.get?_push_of_some _ hZ)) (Met.zero _) ?_
        intro s3 ks3 hm S3 M3
        obtain ⟨h3, g3, d3, tk3, os3⟩ := s3
        have eg : g3 = s.gens := hm.gens
        have ed : d3 = s.drawn := hm.drawn
        have eo : os3 = s.os := hm.os
        subst eg; subst ed; subst eo
        show wpAny _ _ _ _ _ _
        refine wpAny_pure ?_
        show wpAny _ _ (ret Value.none) _ _ _
        refine wpAny_pure ⟨rfl, h3, tk3, ks3, rfl, S3, M3, fun b o e => ?_⟩
        have hbl := Heap.lt_size e
        have q1 : b ≠ s.heap.objs.size := Nat.ne_of_lt hbl
        have q2 : b ≠ (s.heap.push (newO w)).objs.size := by rw [Heap.size_push]; exact Nat.ne_of_lt (Nat.lt_succ_of_lt hbl)
        exact hm.heap b o (by simp only [List.mem_cons, List.not_mem_nil, or_false, not_or]; exact ⟨q1, q2⟩) (Heap.get?_push_of_some _ (Heap.get?_push_of_some _ e))
      · cases r2 with
        | error e => exact hr2
        | ok fl2 =>
          cases fl2 with
          | ret r =>
            obtain ⟨rfl, h3, tk3, ks3, rfl, S3, M3, k3⟩ := hr2
            repeat (any_goals (first | assumption | wp_step))
            exact h _ _ ks3 S3 M3 k3
          | _ => exact hr2.elim
    | _ => exact hr.elim
end
end RvS
end
set_option Elab.async false
set_option linter.all false
set_option maxRecDepth 100000
/-! THE HAND LAYER, for ints, bools, texts, own classes, lists, tuples, dicts, comprehensions, walks over dicts, enumerate, zip, reversed, texts, calls, loops. Paste it whole ahead of your own text; what your proof does not reach may be deleted. -/
namespace L2
open PySem PySem.Spec PyProof.Rows

/-- a key: an int or a str -/
abbrev Key := Sum Int Str
def keyIs : Key → Value → Bool
  | .inl k, v => Value.isInt k v
  | .inr x, v => Value.isStrOf x v
def keyH (w : World) : Key → Int
  | .inl k => hashInt k
  | .inr x => hashStr w x
theorem keyIs_shape : ∀ {k : Key} {v : Value}, keyIs k v = true → (∃ i t, k = Sum.inl i ∧ v = Value.int i t) ∨ (∃ x t, k = Sum.inr x ∧ v = Value.str x t)
  | .inl i, v, h => by
    obtain ⟨t, e⟩ := Value.isInt_shape (k := i) (v := v) h
    exact .inl ⟨i, t, rfl, e⟩
  | .inr x, v, h => by
    obtain ⟨t, e⟩ := Value.isStrOf_shape (x := x) (v := v) h
    exact .inr ⟨x, t, rfl, e⟩
theorem keyIs_int (i : Int) (t : Tok) : keyIs (.inl i) (.int i t) = true := by simp [keyIs, Value.isInt]
theorem keyIs_str (x : Str) (t : Tok) : keyIs (.inr x) (.str x t) = true := by simp [keyIs, Value.isStrOf]
theorem key_ll (a b : Int) : decide ((Sum.inl a : Key) = Sum.inl b) = (a == b) := by
  by_cases e : a = b
  · subst e; simp
  · have h : ¬ (Sum.inl a : Key) = Sum.inl b := fun q => e (Sum.inl.inj q)
    rw [decide_eq_false h]
    exact (beq_eq_false_iff_ne.mpr e).symm
theorem key_rr (a b : Str) : decide ((Sum.inr a : Key) = Sum.inr b) = decide (a = b) := by
  by_cases e : a = b
  · subst e; simp
  · have h : ¬ (Sum.inr a : Key) = Sum.inr b := fun q => e (Sum.inr.inj q)
    rw [decide_eq_false h, decide_eq_false e]
theorem key_lr (a : Int) (b : Str) : decide ((Sum.inl a : Key) = Sum.inr b) = false := decide_eq_false (fun q => nomatch q)
theorem key_rl (a : Str) (b : Int) : decide ((Sum.inr a : Key) = Sum.inl b) = false := decide_eq_false (fun q => nomatch q)

def mixKind (prog : Program) (w : World) : PySem.KeyKind prog w Key where
  is := keyIs
  hash := keyH w
  inj := fun v a b ha hb => by
    rcases keyIs_shape ha with ⟨i, t, rfl, rfl⟩ | ⟨x, t, rfl, rfl⟩
    · rcases keyIs_shape hb with ⟨j, u, rfl, e⟩ | ⟨y, u, rfl, e⟩
      · injection e with e1 _; rw [e1]
      · exact nomatch e
    · rcases keyIs_shape hb with ⟨j, u, rfl, e⟩ | ⟨y, u, rfl, e⟩
      · exact nomatch e
      · injection e with e1 _; rw [e1]
  byValue := fun k v h => by
    rcases keyIs_shape h with ⟨i, t, rfl, rfl⟩ | ⟨x, t, rfl, rfl⟩ <;> rfl
  pyHash := fun hv h => by
    rcases keyIs_shape hv with ⟨i, t, rfl, rfl⟩ | ⟨x, t, rfl, rfl⟩
    · exact wpAny_pyHash_int h
    · exact wpAny_pyHash_str h
  eqBool := fun hu hv h => by
    rcases keyIs_shape hu with ⟨i, t, rfl, rfl⟩ | ⟨x, t, rfl, rfl⟩
    · rcases keyIs_shape hv with ⟨j, u, rfl, rfl⟩ | ⟨y, u, rfl, rfl⟩
      · rw [key_ll] at h; exact wpAny_eqBool_int h
      · rw [key_lr] at h; exact SeqAt.EqAt.int_str i t y u _ _ _ _ h
    · rcases keyIs_shape hv with ⟨j, u, rfl, rfl⟩ | ⟨y, u, rfl, rfl⟩
      · rw [key_rl] at h; exact SeqAt.EqAt.str_int x t j u _ _ _ _ h
      · rw [key_rr] at h; exact wpAny_eqBool_str h
  «strs» := fun k x t v h => by
    rcases keyIs_shape h with ⟨i, u, rfl, e⟩ | ⟨y, u, rfl, e⟩
    · exact nomatch e
    · injection e with e1 _
      subst e1
      cases v <;> rfl

theorem mixKind_is (prog : Program) (w : World) (k : Key) (v : Value) : (mixKind prog w).is k v = keyIs k v := rfl
theorem mixKind_int (prog : Program) (w : World) (i : Int) (t : Tok) : (mixKind prog w).is (.inl i) (.int i t) = true := keyIs_int i t
theorem mixKind_str (prog : Program) (w : World) (x : Str) (t : Tok) : (mixKind prog w).is (.inr x) (.str x t) = true := keyIs_str x t
end L2

namespace L2
open PySem PySem.Spec PyProof.Rows

/-- a value, without the heap -/
inductive V where
  | non | bl (b : Bool) | int (i : Int) | str (x : Str) | byt (b : Array UInt8) | flt (b : UInt64) | ref (a : Addr) | ty (n : String)
  deriving DecidableEq

def RelV : V → Value → Prop
  | .non, u => u = Value.none
  | .bl b, u => u = Value.bool b
  | .int i, u => ∃ t, u = Value.int i t
  | .str x, u => ∃ t, u = Value.str x t
  | .byt b, u => ∃ t, u = Value.bytes b t
  | .flt b, u => ∃ t, u = Value.float b t
  | .ref a, u => u = Value.ref a
  | .ty n, u => u = Value.type n

abbrev Vals : List V → List Value → Prop := Paired RelV
theorem Vals.length {xs : List V} {us : List Value} (r : Vals xs us) : xs.length = us.length := Paired.length r
theorem Vals.get : ∀ {xs : List V} {us : List Value} {i : Nat} {x : V}, Vals xs us → xs[i]? = some x → ∃ u, us[i]? = some u ∧ RelV x u
  | _, _, _, _, .nil, e => by simp at e
  | _, _, 0, _, .cons r _, e => by simp at e; subst e; exact ⟨_, rfl, r⟩
  | _, _, i + 1, x, .cons _ t, e => by
    obtain ⟨u, h1, h2⟩ := Vals.get (i := i) (x := x) t (by simpa using e)
    exact ⟨u, by simpa using h1, h2⟩
theorem Vals.set {x : V} {u : Value} (r : RelV x u) : ∀ {xs : List V} {us : List Value} (i : Nat), Vals xs us → Vals (xs.set i x) (us.set i u)
  | _, _, _, .nil => .nil
  | _, _, 0, .cons _ t => .cons r t
  | _, _, i + 1, .cons q t => .cons q (Vals.set r i t)
theorem Vals.append : ∀ {xs ys : List V} {us ws : List Value}, Vals xs us → Vals ys ws → Vals (xs ++ ys) (us ++ ws)
  | _, _, _, _, .nil, s => s
  | _, _, _, _, .cons r t, s => .cons r (Vals.append t s)
theorem Vals.take : ∀ {xs : List V} {us : List Value} (n : Nat), Vals xs us → Vals (xs.take n) (us.take n)
  | _, _, 0, _ => .nil
  | _, _, _ + 1, .nil => .nil
  | _, _, n + 1, .cons r t => .cons r (Vals.take n t)
theorem Vals.drop : ∀ {xs : List V} {us : List Value} (n : Nat), Vals xs us → Vals (xs.drop n) (us.drop n)
  | _, _, 0, r => r
  | _, _, _ + 1, .nil => .nil
  | _, _, n + 1, .cons _ t => Vals.drop n t

def RelO : Option V → Option Value → Prop
  | some v, some u => RelV v u
  | none, none => True
  | _, _ => False
def KV {κ : Type} : List (κ × V) → List (κ × Value) → Prop := Paired fun (p : κ × V) (q : κ × Value) => p.1 = q.1 ∧ RelV p.2 q.2

/-- a key of a dict (00_mix): an int or a text -/
def kV : Key → V
  | .inl i => .int i
  | .inr x => .str x

/-- what stands at a tracked address -/
inductive HO where
  /-- a list -/
  | lst (xs : List V)
  /-- a tuple (never changes) -/
  | tup (xs : List V)
  /-- a dict whose keys are ints and texts; one whose keys are tuples of ints and texts (the empty one is both) -/
  | dK (kvs : List (Key × V)) | dT (kvs : List (List Key × V))
  /-- a set of ints: its members, its size -/
  | set (S : Int → Bool) (n : Nat)
  /-- an instance of the class at C, its dict at dx, its attributes -/
  | ins (C dx : Addr) (fs : List (Str × V))
  /-- the dict of the instance at x -/
  | own (x : Addr)
  /-- the dict of an exception -/
  | xd (fs : List (Str × V))
  /-- a bound method, f of x -/
  | met (f x : Addr)
  /-- a range object lo, lo + 1, .. below hi -/
  | rng (lo hi : Int)
  /-- a thing that is known to the object (the script; a dict while a loop walks it): read, never written while it is so -/
  | frz (o : Obj) (u : HO)
  /-- a code object's table -/
  | tbl (ps : Array Value)
  /-- any other thing, by what is true of its one object (a def of one's own: SetO a S n := HO.ext fun h => ..) -/
  | ext (φ : Heap → Prop)

abbrev Hp := Addr → Option HO
def upd (H : Hp) (a : Addr) (o : HO) : Hp := fun b => if b = a then some o else H b
theorem upd_same {H : Hp} {a : Addr} {o : HO} : upd H a o a = some o := by unfold upd; rw [if_pos rfl]
theorem upd_ne {H : Hp} {a b : Addr} {o : HO} (h : b ≠ a) : upd H a o b = H b := by unfold upd; rw [if_neg h]
theorem upd_upd {H : Hp} {a : Addr} {o u : HO} : upd (upd H a o) a u = upd H a u := by
  funext b; unfold upd; split <;> rfl
/-- two objects of different content stand apart -/
theorem ne_of {H : Hp} {a b : Addr} {o u : HO} (h : H a = some o) (h' : H b = some u) (d : o ≠ u) : a ≠ b := by
  intro e; subst e; rw [h] at h'; exact d (Option.some.inj h')
theorem ne_of_none {H : Hp} {a b : Addr} {o : HO} (h : H a = some o) (h' : H b = none) : a ≠ b := by
  intro e; subst e; rw [h] at h'; cases h'

section
variable (P : Program) (w : World)
def ObjOk (H : Hp) (h : Heap) (a : Addr) : HO → Prop
  | .lst xs => xs.length ≤ sizeLine ∧ ∃ (its : List Value) (n : Nat), Vals xs its ∧ h.get? a = some { cls := .type "list", data := .seq its.toArray n }
  | .tup xs => xs.length ≤ sizeLine ∧ ∃ its : List Value, Vals xs its ∧ IsTup h a its.toArray
  | .dK kvs => kvs.length ≤ sizeLine ∧ (a == sysModules) = false ∧ ∃ vs, KV kvs vs ∧ h.DictOf (mixKind P w) a vs
  | .dT kvs => kvs.length ≤ sizeLine ∧ (a == sysModules) = false ∧ ∃ xs : List (List Key × Addr × Value),
      Paired (fun (p : List Key × V) (q : List Key × Addr × Value) => p.1 = q.1 ∧ H q.2.1 = some (.tup (p.1.map kV)) ∧ RelV p.2 q.2.2) kvs xs ∧
      ∃ o es ep, h.get? a = some o ∧ o.ExactDict ∧ o.data = .dict es ep ∧ es.toList = xs.map (entryOfKey (tupleKind (mixKind P w))) ∧ (xs.map (·.1)).Nodup
  | .set S n => h.SetOf (intKind P w) a S n
  | .ins C dx fs => H dx = some (.own a) ∧ fs.length ≤ 1000 ∧ dx ≠ a ∧ h.get? a = some (PySem.W.instObj C dx) ∧
      ∃ mA, h.Ns1 dx mA ∧ (∀ f, RelO (fs.lookup f) (mA f)) ∧ PySem.Within mA (fs.map (·.1))
  | .own _ => ∃ o, h.get? a = some o
  | .xd fs => ∃ mA, h.Ns1 a mA ∧ ∀ f, RelO (fs.lookup f) (mA f)
  | .rng lo hi => ∃ t u v, h.get? a = some { cls := .type "range", data := .fields #[.int lo t, .int hi u, .int 1 v] }
  | .frz o u => h.get? a = some o ∧ ObjOk H h a u
  | .tbl ps => h.get? a = some { cls := .none, data := .fields ps }
  | .met f x => h.get? a = some (PySem.W.methodObj (.ref f) (.ref x))
  | .ext φ => φ h ∧ (∃ o, h.get? a = some o) ∧ ∀ h1 h2 : Heap, φ h1 → (∀ o, h1.get? a = some o → h2.get? a = some o) → φ h2
/-- the abstract heap is held -/
def HOk (H : Hp) (h : Heap) : Prop := ∀ a o, H a = some o → ObjOk P w H h a o
end

section
variable {P : Program} {w : World} {H H' : Hp} {h h' : Heap} {a : Addr} {o : HO}
theorem ObjOk.lt (x : ObjOk P w H h a o) : a < h.objs.size := by
  cases o with
  | lst xs => obtain ⟨_, _, _, _, e⟩ := x; exact Heap.lt_size e
  | tup xs => obtain ⟨_, _, _, p⟩ := x; exact p.lt
  | dK kvs => obtain ⟨_, _, _, _, o, _, _, e, _⟩ := x; exact Heap.lt_size e
  | dT kvs => obtain ⟨_, _, _, _, o, _, _, e, _⟩ := x; exact Heap.lt_size e
  | set S n => obtain ⟨o, _, _, _, e, _⟩ := x; exact Heap.lt_size e
  | ins C dx fs => obtain ⟨_, _, _, e, _⟩ := x; exact Heap.lt_size e
  | own y => obtain ⟨_, e⟩ := x; exact Heap.lt_size e
  | xd fs => obtain ⟨_, ⟨_, _, _, e, _⟩, _⟩ := x; exact Heap.lt_size e
  | rng lo hi => obtain ⟨_, _, _, e⟩ := x; exact Heap.lt_size e
  | frz ob u => obtain ⟨e, _⟩ := x; exact Heap.lt_size e
  | tbl ps => exact Heap.lt_size (show h.get? a = some _ from x)
  | met f y => exact Heap.lt_size (show h.get? a = some _ from x)
  | ext φ => obtain ⟨_, ⟨_, e⟩, _⟩ := x; exact Heap.lt_size e
theorem Paired.mapP {α β : Type} {F G : α → β → Prop} : ∀ {l₁ : List α} {l₂ : List β}, Paired F l₁ l₂ → (∀ a b, F a b → G a b) → Paired G l₁ l₂
  | _, _, .nil, _ => .nil
  | _, _, .cons r t, f => .cons (f _ _ r) (Paired.mapP t f)
/-- what an object's description leans on: its own object, its own dict, the tuples -/
theorem ObjOk.stay (x : ObjOk P w H h a o) (k : ∀ b u, (b = a ∨ H b = some (.own a)) → h.get? b = some u → h'.get? b = some u)
    (ho : ∀ b, H b = some (.own a) → H' b = some (.own a)) (ht : ∀ b xs, H b = some (.tup xs) → H' b = some (.tup xs)) : ObjOk P w H' h' a o := by
  induction o with
  | lst xs => obtain ⟨z, its, n, r, e⟩ := x; exact ⟨z, its, n, r, k _ _ (.inl rfl) e⟩
  | tup xs => obtain ⟨z, its, r, ob, e, c⟩ := x; exact ⟨z, its, r, ob, k _ _ (.inl rfl) e, c⟩
  | dK kvs => obtain ⟨z, y, vs, r, ob, es, ep, e, c⟩ := x; exact ⟨z, y, vs, r, ob, es, ep, k _ _ (.inl rfl) e, c⟩
  | dT kvs =>
    obtain ⟨z, y, xs, r, ob, es, ep, e, c⟩ := x
    exact ⟨z, y, xs, Paired.mapP r fun p q z => ⟨z.1, ht _ _ z.2.1, z.2.2⟩, ob, es, ep, k _ _ (.inl rfl) e, c⟩
  | set S n => obtain ⟨ob, es, ep, t, e, c⟩ := x; exact ⟨ob, es, ep, t, k _ _ (.inl rfl) e, c⟩
  | ins C dx fs =>
    obtain ⟨d, z, ne, e, mA, ⟨od, es, ep, e2, c⟩, r⟩ := x
    exact ⟨ho _ d, z, ne, k _ _ (.inl rfl) e, mA, ⟨od, es, ep, k _ _ (.inr d) e2, c⟩, r⟩
  | own y => obtain ⟨ob, e⟩ := x; exact ⟨ob, k _ _ (.inl rfl) e⟩
  | xd fs => obtain ⟨mA, ⟨od, es, ep, e, c⟩, r⟩ := x; exact ⟨mA, ⟨od, es, ep, k _ _ (.inl rfl) e, c⟩, r⟩
  | rng lo hi => obtain ⟨t, u, v, e⟩ := x; exact ⟨t, u, v, k _ _ (.inl rfl) e⟩
  | frz ob u ih => obtain ⟨e, q⟩ := x; exact ⟨k _ _ (.inl rfl) e, ih q⟩
  | tbl ps =>
    have e : h.get? a = some { cls := .none, data := .fields ps } := x
    show h'.get? a = some { cls := .none, data := .fields ps }
    exact k a _ (.inl rfl) e
  | met f y =>
    have e : h.get? a = some (PySem.W.methodObj (.ref f) (.ref y)) := x
    show h'.get? a = some (PySem.W.methodObj (.ref f) (.ref y))
    exact k a _ (.inl rfl) e
  | ext φ => obtain ⟨p, ⟨o, e⟩, st⟩ := x; exact ⟨st _ _ p fun o q => k _ _ (.inl rfl) q, ⟨o, k _ _ (.inl rfl) e⟩, st⟩
theorem HOk.lt (x : HOk P w H h) (e : H a = some o) : a < h.objs.size := (x a o e).lt
theorem HOk.fresh (x : HOk P w H h) (e : h.objs.size ≤ a) : H a = none := by
  cases q : H a with
  | none => rfl
  | some u => exact absurd (Nat.lt_of_lt_of_le (x.lt q) e) (Nat.lt_irrefl _)
/-- every object of the heap is kept -/
theorem HOk.kept (x : HOk P w H h) (k : ∀ b u, h.get? b = some u → h'.get? b = some u) : HOk P w H h' := fun a o e =>
  (x a o e).stay (fun b u _ q => k b u q) (fun _ q => q) fun _ _ q => q
/-- a new object is laid and tracked -/
theorem HOk.laid (x : HOk P w H h) (k : ∀ b u, h.get? b = some u → h'.get? b = some u) (hp : h.objs.size ≤ a) (new : ObjOk P w (upd H a o) h' a o) : HOk P w (upd H a o) h' := fun b u e => by
  have hn := x.fresh hp
  by_cases hb : b = a
  · subst hb; rw [upd_same] at e; cases e; exact new
  · rw [upd_ne hb] at e
    exact (x b u e).stay (fun c v _ q => k c v q) (fun c q => by rw [upd_ne (ne_of_none q hn)]; exact q) fun c xs q => by rw [upd_ne (ne_of_none q hn)]; exact q
end

/-- what may be read as u: it is u, or a known u -/
def Rd (H : Hp) (a : Addr) (u : HO) : Prop := H a = some u ∨ ∃ o, H a = some (.frz o u)
theorem Rd.ok {P : Program} {w : World} {H : Hp} {h : Heap} {a : Addr} {u : HO} (r : Rd H a u) (x : HOk P w H h) : ObjOk P w H h a u := by
  rcases r with r | ⟨o, r⟩
  · exact x a u r
  · obtain ⟨_, q⟩ := x a _ r
    exact q
/-- what may be written -/
def Mut : Option HO → Prop
  | some (.lst _) => True
  | some (.dK _) => True
  | some (.dT _) => True
  | some (.set _ _) => True
  | some (.ins _ _ _) => True
  | some (.ext _) => True
  | _ => False
section
variable {P : Program} {w : World} {H : Hp} {h h' : Heap} {x e : Addr} {o' : HO}
/-- the object at e is changed: x itself, or the dict of the instance x -/
theorem HOk.write (ok : HOk P w H h) (mu : Mut (H x)) (he : e = x ∨ H e = some (.own x)) (k : ∀ b u, b ≠ e → h.get? b = some u → h'.get? b = some u) (heo : ∃ u, h'.get? e = some u)
    (new : ObjOk P w (upd H x o') h' x o') : HOk P w (upd H x o') h' := fun b u q => by
  have nown : ∀ c y, H c = some (.own y) → c ≠ x := fun c y r z => by subst z; rw [r] at mu; exact mu
  have ntup : ∀ c xs, H c = some (.tup xs) → c ≠ x := fun c xs r z => by subst z; rw [r] at mu; exact mu
  by_cases hb : b = x
  · subst hb; rw [upd_same] at q; cases q; exact new
  · rw [upd_ne hb] at q
    by_cases hbe : b = e
    · have q' : H b = some (.own x) := by
        rcases he with z | z
        · exact absurd (hbe.trans z) hb
        · rw [hbe]; exact z
      rw [q] at q'; cases q'
      obtain ⟨v, hv⟩ := heo
      exact ⟨v, by rw [hbe]; exact hv⟩
    · refine (ok b u q).stay (fun c v hc r => k c v ?_ r) (fun c r => by rw [upd_ne (nown c b r)]; exact r) fun c xs r => by rw [upd_ne (ntup c xs r)]; exact r
      rcases hc with rfl | hc
      · exact hbe
      · rintro rfl
        rcases he with z | z
        · exact nown c b hc z
        · rw [hc] at z; cases z; exact hb rfl
end

/-! ### kept unless tracked; of the frames at fs (the callers') the slots may change (an exception that passes writes there); of the records at ex (iterators) nothing is said -/
structure Un (fs ex : List Addr) (H H' : Hp) (h h' : Heap) : Prop where
  keep : ∀ b o, h.get? b = some o → H b = none → b ∉ fs → b ∉ ex → h'.get? b = some o
  slot : ∀ b o, h.get? b = some o → H b = none → b ∈ fs → b ∉ ex → ∃ sl, h'.get? b = some { o with slots := sl }
  free : ∀ b o, h.get? b = some o → H b = none → b ∉ ex → H' b = none
  there : ∀ b o, h.get? b = some o → b ∉ ex → ∃ o', h'.get? b = some o'
  tups : ∀ b xs, H b = some (.tup xs) → H' b = some (.tup xs)
  frzs : ∀ b o u, H b = some (.frz o u) → H' b = some (.frz o u)
  tbls : ∀ b ps, H b = some (.tbl ps) → ∃ more, H' b = some (.tbl (ps ++ more))
section
variable {fs fs' ex ex' : List Addr} {H H1 H2 : Hp} {h h1 h2 h' : Heap} {a x e : Addr} {o : HO}
theorem Un.any (u : Un fs ex H H1 h h1) {b : Addr} {ob : Obj} (q : h.get? b = some ob) (n : H b = none) (hx : b ∉ ex) : ∃ sl, h1.get? b = some { ob with slots := sl } := by
  by_cases hb : b ∈ fs
  · exact u.slot b ob q n hb hx
  · exact ⟨ob.slots, u.keep b ob q n hb hx⟩
theorem Un.kept (k : ∀ b u, h.get? b = some u → h'.get? b = some u) : Un fs ex H H h h' :=
  ⟨fun b ob q _ _ _ => k b ob q, fun b ob q _ _ _ => ⟨ob.slots, k b ob q⟩, fun _ _ _ n _ => n, fun b ob q _ => ⟨ob, k b ob q⟩, fun _ _ q => q, fun _ _ _ q => q, fun _ ps q => ⟨#[], by rw [q]; simp⟩⟩
theorem Un.refl : Un fs ex H H h h := Un.kept fun _ _ q => q
theorem Un.laid (k : ∀ b u, h.get? b = some u → h'.get? b = some u) (hp : h.objs.size ≤ a) (hn : H a = none) : Un fs ex H (upd H a o) h h' where
  keep := fun b u q _ _ _ => k b u q
  slot := fun b u q _ _ _ => ⟨u.slots, k b u q⟩
  free := fun b u q n _ => by rw [upd_ne (Nat.ne_of_lt (Nat.lt_of_lt_of_le (Heap.lt_size q) hp))]; exact n
  there := fun b u q _ => ⟨u, k b u q⟩
  tups := fun b xs q => by rw [upd_ne (ne_of_none q hn)]; exact q
  frzs := fun b u xs q => by rw [upd_ne (ne_of_none q hn)]; exact q
  tbls := fun b ps q => ⟨#[], by rw [upd_ne (ne_of_none q hn), q]; simp⟩
theorem Un.write (mu : Mut (H x)) (he : e = x ∨ H e = some (.own x)) (k : ∀ b u, b ≠ e → h.get? b = some u → h'.get? b = some u) (heo : ∃ u, h'.get? e = some u) : Un fs ex H (upd H x o) h h' := by
  have hx : ∀ b, H b = none → b ≠ x := fun b n z => by subst z; rw [n] at mu; exact mu
  have hb : ∀ b, H b = none → b ≠ e := fun b n z => by
    subst z
    rcases he with r | r
    · exact hx b n r
    · rw [n] at r; cases r
  have hm : ∀ b u, H b = some u → ¬ Mut (some u) → b ≠ x := fun b u q nm z => by subst z; rw [q] at mu; exact nm mu
  refine ⟨fun b u q n _ _ => k b u (hb b n) q, fun b u q n _ _ => ⟨u.slots, k b u (hb b n) q⟩, fun b u q n _ => by rw [upd_ne (hx b n)]; exact n, fun b u q _ => ?_,
    fun b xs q => by rw [upd_ne (hm b _ q fun z => z)]; exact q, fun b u xs q => by rw [upd_ne (hm b _ q fun z => z)]; exact q, fun b ps q => ⟨#[], by rw [upd_ne (hm b _ q fun z => z), q]; simp⟩⟩
  by_cases hbe : b = e
  · subst hbe; exact heo
  · exact ⟨u, k b u hbe q⟩
end

/-! ### the heap without what is tracked -/
def trk (h : Heap) (H : Hp) : List Addr := (List.range h.objs.size).filter fun a => (H a).isSome
def hidT (h : Heap) (H : Hp) : Heap := PySem.W.hideAll h (trk h H)
theorem hidT_size (h : Heap) (H : Hp) : (hidT h H).objs.size = h.objs.size := PySem.W.hideAll_size _ _
theorem hidT_get {h : Heap} {H : Hp} {b : Addr} {o : Obj} (e : h.get? b = some o) (n : H b = none) : (hidT h H).get? b = some o :=
  PySem.W.hideAll_get _ e fun hm => by
    have q : (H b).isSome = true := (List.mem_filter.mp hm).2
    rw [n] at q; simp at q
theorem of_hidT {h : Heap} {H : Hp} {b : Addr} {o : Obj} (e : (hidT h H).get? b = some o) : h.get? b = some o ∧ H b = none := by
  have e' : h.get? b = some o := PySem.W.of_hideAll (trk h H) e
  refine ⟨e', ?_⟩
  cases q : H b with
  | none => rfl
  | some x =>
    have hm : b ∈ trk h H := List.mem_filter.mpr ⟨List.mem_range.mpr (Heap.lt_size e'), by simp [q]⟩
    have z : (hidT h H).get? b = none := PySem.W.hideAll_none (trk h H) hm
    rw [z] at e; cases e

/-! ### OpenK's ledger, filled with every new object but one -/
end L2

namespace L2
open PySem PySem.Spec PyProof.Rows

/-- the module's facts, over the base: the heap at the law's entry without what is tracked there -/
structure Mod (K : PySem.W.Frag) (mg : Str → Option Value) (base : Heap) : Prop where
  kin : K.In base
  glob : base.Ns mainGlobals mg
  blt : ∃ mb, base.Ns builtinsNs mb ∧ ∀ x : Str, x ≠ "__name__" → mb x = bootBuiltins x
  nolimit : base.NoLimit

/-- the context: a def's body (or a comprehension's block) running. base: fixed through the whole law; s₀, H₀: the entry; outer: the frames whose slots others may change (a def's callers); stack: all frames that run;
   ex: iterators that were made ahead of the entry and are walked here (a comprehension's); fn: the names whose cells were made at the entry (a def: all; a comprehension's block: its own); calm: not within an except suite; pn: pins that every state bears; xe: what is wanted of an exception that leaves the code -/
structure Cx where
  prog : Program
  w : World
  K : PySem.W.Frag
  mg : Str → Option Value
  base : Heap
  A : Around
  N : List Str
  s_0 : Shared
  H_0 : Hp
  env : Env
  outer : List Env
  stack : List Env
  ex : List Addr
  fn : Str → Bool
  calm : Bool
  pn : List (Addr × Obj)
  xe : Value → Shared → Prop
/-- the callers' frames -/
def frs (l : List Env) : List Addr := l.filterMap (·.frame)
abbrev Cx.fs (X : Cx) : List Addr := frs X.outer

def Vis (sc : Scope) (x : Str) : Prop := sc.names.lookup x = some .local ∨ sc.names.lookup x = some .cell ∨ sc.names.lookup x = some .free
def Loc (sc : Scope) (x : Str) : Prop := sc.names.lookup x = some .local ∨ sc.names.lookup x = some .cell
def Look (env : Env) (h : Heap) (m : Str → Option Value) (x : Str) (u : Value) : Prop :=
  (env.kindOf x = some .local ∧ m x = some u) ∨ ((env.kindOf x = some .cell ∨ env.kindOf x = some .free) ∧ ∃ c, env.cells.lookup x = some c ∧ h.IsCell c (some u))

structure Cx.Ok (X : Cx) : Prop where
  mod : Mod X.K X.mg X.base
  kind : X.env.scope.kind = .function
  glob : X.env.globals = mainGlobals
  blt : X.env.builtins = builtinsNs
  above : X.s_0.heap.objs.size ≤ X.env.locals
  inj : ∀ x y c, X.env.cells.lookup x = some c → X.env.cells.lookup y = some c → x = y
  has : ∀ x, (X.env.kindOf x = some .cell ∨ X.env.kindOf x = some .free) → ∃ c, X.env.cells.lookup x = some c
  cab : ∀ x c, X.fn x = true → X.env.cells.lookup x = some c → X.s_0.heap.objs.size ≤ c
  hd : X.calm = true → X.A.handled = none
  frames : X.A.frames = some X.stack
  stk : X.stack = X.outer ∨ (X.stack = X.env :: X.outer ∧ X.env.frame = some X.env.locals)
  exf : ∀ b ∈ X.ex, b ≠ X.env.locals ∧ ∀ x c, X.env.cells.lookup x = some c → c ≠ b
  bs : ∀ b o, X.base.get? b = some o → X.s_0.heap.get? b = some o ∧ X.H_0 b = none
  bsz : X.base.objs.size ≤ X.s_0.heap.objs.size
  noex : ∀ b o, X.base.get? b = some o → b ∉ X.ex
  exfs : ∀ b ∈ X.ex, b ∉ X.fs
  funs : X.s_0.heap.FunFrames X.base X.outer
  frf : ∀ b ∈ X.fs, X.H_0 b = none

structure Inv (X : Cx) (pins : List (Addr × Obj)) (σ : List (Option V)) (H : Hp) (s : Shared) : Prop where
  ok : X.Ok
  os : s.os = X.s_0.os
  bare : AllBare s.gens
  base : Un X.fs X.ex X.H_0 H X.s_0.heap s.heap
  loc : ∃ m, s.heap.Ns X.env.locals m ∧ ∀ (i : Nat) (x : Str) (v : V), X.N[i]? = some x → σ[i]? = some (some v) → Vis X.env.scope x → ∃ u, RelV v u ∧ Look X.env s.heap m x u
  cell : ∀ x c, X.env.cells.lookup x = some c → ∃ v, s.heap.IsCell c v
  free : H X.env.locals = none
  freeC : ∀ x c, X.env.cells.lookup x = some c → H c = none
  pin : ∀ p ∈ X.pn ++ pins, s.heap.get? p.1 = some p.2 ∧ H p.1 = none ∧ p.1 ≠ X.env.locals ∧ p.1 ∉ X.fs ∧ ∀ v, p.2.data ≠ .cell v
  hok : HOk X.prog X.w H s.heap
  len : σ.length = X.N.length

section
variable {X : Cx} {pins : List (Addr × Obj)} {σ : List (Option V)} {H H' : Hp} {s : Shared} {h' : Heap}

theorem Cx.Ok.nofr (ok : X.Ok) {b : Addr} {o : Obj} (e : X.base.get? b = some o) : b ∉ X.fs := fun hb => by
  have := (ok.funs.mem hb).1
  rw [e] at this; cases this
theorem Inv.bs (I : Inv X pins σ H s) : ∀ b o, X.base.get? b = some o → s.heap.get? b = some o ∧ H b = none := fun b o e =>
  ⟨I.base.keep b o (I.ok.bs b o e).1 (I.ok.bs b o e).2 (I.ok.nofr e) (I.ok.noex b o e), I.base.free b o (I.ok.bs b o e).1 (I.ok.bs b o e).2 (I.ok.noex b o e)⟩
theorem Inv.bk (I : Inv X pins σ H s) : ∀ b o, X.base.get? b = some o → s.heap.get? b = some o := fun b o e => (I.bs b o e).1
theorem Inv.mod (I : Inv X pins σ H s) : Mod X.K X.mg X.base := I.ok.mod
theorem Inv.kIn (I : Inv X pins σ H s) : X.K.In s.heap := I.ok.mod.kin.keeps I.bk
theorem Inv.lt (I : Inv X pins σ H s) : X.env.locals < s.heap.objs.size := let ⟨_, hn, _⟩ := I.loc; hn.lt
theorem Inv.sz (I : Inv X pins σ H s) : X.s_0.heap.objs.size ≤ s.heap.objs.size := Nat.le_trans I.ok.above (Nat.le_of_lt I.lt)
theorem Inv.nofs (I : Inv X pins σ H s) {a : Addr} (h : s.heap.objs.size ≤ a) : a ∉ X.fs := fun hb => by
  obtain ⟨_, o, ho, _⟩ := I.ok.funs.mem hb
  exact absurd (Nat.lt_of_lt_of_le (Heap.lt_size ho) (Nat.le_trans I.sz h)) (Nat.lt_irrefl _)
theorem Inv.cne (I : Inv X pins σ H s) : ∀ x c, X.env.cells.lookup x = some c → c ≠ X.env.locals := fun x c e z => by
  obtain ⟨v, o, ho, hd⟩ := I.cell x c e
  obtain ⟨m, ⟨o', es, ep, ho', hd', _⟩, _⟩ := I.loc
  rw [z, ho'] at ho; cases ho; rw [hd'] at hd; cases hd
theorem Inv.funs (I : Inv X pins σ H s) : s.heap.FunFrames X.base X.outer := by
  have all : ∀ (l : List Env), (∀ b ∈ frs l, b ∈ X.fs) → X.s_0.heap.FunFrames X.base l → s.heap.FunFrames X.base l := by
    intro l
    induction l with
    | nil => intro _ _; trivial
    | cons env r ih =>
      intro hs hl
      obtain ⟨hk, ⟨L, o, hf, hn, ho, hd⟩, hr⟩ := hl
      have hL : L ∈ X.fs := hs L (by unfold frs; rw [List.filterMap_cons, hf]; exact List.mem_cons_self)
      obtain ⟨sl, e⟩ := I.base.slot L o ho (I.ok.frf L hL) hL fun z => I.ok.exfs L z hL
      exact ⟨hk, ⟨L, _, hf, hn, e, hd⟩, ih (fun b hb => hs b (by unfold frs; rw [List.filterMap_cons, hf]; exact List.mem_cons_of_mem _ hb)) hr⟩
  exact all X.outer (fun _ hb => hb) I.ok.funs

/-- the frames that run, for a call -/
theorem Inv.stack (I : Inv X pins σ H s) : s.heap.FunFrames X.base X.stack := by
  rcases I.ok.stk with e | ⟨e, hf⟩
  · rw [e]; exact I.funs
  · rw [e]
    obtain ⟨m, hn, _⟩ := I.loc
    refine .cons (by rw [I.ok.kind]; decide) hf hn ?_ I.funs
    exact Heap.get?_none_of_le (Nat.le_trans I.ok.bsz I.ok.above)
theorem Inv.stkSub (I : Inv X pins σ H s) : ∀ b ∈ frs X.stack, b ∈ X.env.locals :: X.fs := fun b hb => by
  rcases I.ok.stk with e | ⟨e, hf⟩
  · rw [e] at hb; exact List.mem_cons_of_mem _ hb
  · rw [e] at hb
    unfold frs at hb
    rw [List.filterMap_cons, hf] at hb
    exact hb
theorem Inv.stkFree (I : Inv X pins σ H s) : ∀ b ∈ frs X.stack, H b = none := fun b hb => by
  rcases List.mem_cons.mp (I.stkSub b hb) with e | hb
  · rw [e]; exact I.free
  · obtain ⟨_, o, ho, _⟩ := I.ok.funs.mem hb
    exact I.base.free b o ho (I.ok.frf b hb) fun z => I.ok.exfs b z hb

/-- THE STEP: the untracked objects but the frame and the records at ch are kept (the callers' frames up to slots), the frame's map is kept, the new abstract heap is held -/
theorem Inv.step {g' : Array GenState} {t' : Nat} {d' : Drawn} {ch : List Addr} (I : Inv X pins σ H s)
    (hch : ∀ b ∈ ch, (b ∈ X.ex ∨ X.s_0.heap.objs.size ≤ b) ∧ b ≠ X.env.locals ∧ (∀ x c, X.env.cells.lookup x = some c → c ≠ b) ∧ ∀ p ∈ X.pn ++ pins, p.1 ≠ b)
    (keep : ∀ b o, b ≠ X.env.locals → b ∉ X.fs → b ∉ ch → s.heap.get? b = some o → H b = none → h'.get? b = some o)
    (slot : ∀ b o, b ≠ X.env.locals → b ∈ X.fs → b ∉ ch → s.heap.get? b = some o → H b = none → ∃ sl, h'.get? b = some { o with slots := sl }) (free : ∀ b o, b ∉ ch → s.heap.get? b = some o → H b = none → H' b = none)
    (there : ∀ b o, b ∉ ch → s.heap.get? b = some o → ∃ o', h'.get? b = some o')
    (tups : ∀ b xs, H b = some (.tup xs) → H' b = some (.tup xs)) (frzs : ∀ b o u, H b = some (.frz o u) → H' b = some (.frz o u)) (tbls : ∀ b ps, H b = some (.tbl ps) → ∃ more, H' b = some (.tbl (ps ++ more)))
    (ns : ∀ m, s.heap.Ns X.env.locals m → h'.Ns X.env.locals m) (hok : HOk X.prog X.w H' h') (hg : AllBare g') :
    Inv X pins σ H' { s with heap := h', gens := g', drawn := d', toks := t' } := by
  have neL : ∀ b o, X.s_0.heap.get? b = some o → b ≠ X.env.locals := fun b o e => Nat.ne_of_lt (Nat.lt_of_lt_of_le (Heap.lt_size e) I.ok.above)
  have neC : ∀ b o, X.s_0.heap.get? b = some o → b ∉ X.ex → b ∉ ch := fun b o e hx hb => by
    rcases (hch b hb).1 with z | z
    · exact hx z
    · exact absurd (Nat.lt_of_lt_of_le (Heap.lt_size e) z) (Nat.lt_irrefl _)
  have cellK : ∀ x c, X.env.cells.lookup x = some c → ∀ v, s.heap.IsCell c v → h'.IsCell c v := fun x c e v ⟨o, ho, hd⟩ => by
    have nch : c ∉ ch := fun z => (hch c z).2.2.1 x c e rfl
    by_cases hc : c ∈ X.fs
    · obtain ⟨sl, q⟩ := slot c o (I.cne x c e) hc nch ho (I.freeC x c e)
      exact ⟨_, q, hd⟩
    · exact ⟨o, keep c o (I.cne x c e) hc nch ho (I.freeC x c e), hd⟩
  refine ⟨I.ok, I.os, hg, ⟨fun b o e n hb hx => ?_, fun b o e n hb hx => ?_, fun b o e n hx => ?_, fun b o e hx => ?_, fun b xs e => tups b xs (I.base.tups b xs e), fun b o xs e => frzs b o xs (I.base.frzs b o xs e), fun b ps e => ?_⟩, ?_, fun x c e => ?_, ?_, fun x c e => ?_, fun p hp => ?_, hok, I.len⟩
  · exact keep b o (neL b o e) hb (neC b o e hx) (I.base.keep b o e n hb hx) (I.base.free b o e n hx)
  · obtain ⟨sl, e1⟩ := I.base.slot b o e n hb hx
    obtain ⟨sl', e2⟩ := slot b _ (neL b o e) hb (neC b o e hx) e1 (I.base.free b o e n hx)
    exact ⟨sl', e2⟩
  · obtain ⟨o', e1⟩ := I.base.there b o e hx
    exact free b o' (neC b o e hx) e1 (I.base.free b o e n hx)
  · obtain ⟨o', e1⟩ := I.base.there b o e hx
    exact there b o' (neC b o e hx) e1
  · obtain ⟨m1, e1⟩ := I.base.tbls b ps e
    obtain ⟨m2, e2⟩ := tbls b _ e1
    exact ⟨m1 ++ m2, by rw [e2, Array.append_assoc]⟩
  · obtain ⟨m, hn, hl⟩ := I.loc
    refine ⟨m, ns m hn, fun i x v e1 e2 e3 => ?_⟩
    obtain ⟨u, r, l⟩ := hl i x v e1 e2 e3
    refine ⟨u, r, ?_⟩
    rcases l with l | ⟨k, c, e, z⟩
    · exact .inl l
    · exact .inr ⟨k, c, e, cellK x c e _ z⟩
  · obtain ⟨v, z⟩ := I.cell x c e
    exact ⟨v, cellK x c e v z⟩
  · obtain ⟨m, ⟨o, _, _, ho, _⟩, _⟩ := I.loc
    exact free _ o (fun z => (hch _ z).2.1 rfl) ho I.free
  · obtain ⟨v, o, ho, hd⟩ := I.cell x c e
    exact free c o (fun z => (hch c z).2.2.1 x c e rfl) ho (I.freeC x c e)
  · obtain ⟨e, n, ne, nf, d⟩ := I.pin p hp
    have nch : p.1 ∉ ch := fun z => (hch p.1 z).2.2.2 p hp rfl
    exact ⟨keep p.1 p.2 ne nf nch e n, free p.1 p.2 nch e n, ne, nf, d⟩
/-- .. where the frame's own object is kept too -/
theorem Inv.un {t' : Nat} (I : Inv X pins σ H s) (u : Un X.fs [] H H' s.heap h') (hok : HOk X.prog X.w H' h') : Inv X pins σ H' { s with heap := h', toks := t' } := by
  obtain ⟨m, ⟨o, es, ep, ho, r⟩, _⟩ := id I.loc
  obtain ⟨sl, hL⟩ := u.any ho I.free (by simp)
  exact I.step (g' := s.gens) (d' := s.drawn) (ch := []) (fun _ z => nomatch z) (fun b o _ hb _ e n => u.keep b o e n hb (by simp)) (fun b o _ hb _ e n => u.slot b o e n hb (by simp)) (fun b o _ e n => u.free b o e n (by simp)) (fun b o _ e => u.there b o e (by simp)) u.tups u.frzs u.tbls (fun m' hm => by
    obtain ⟨o', es', ep', ho', r'⟩ := hm
    rw [ho] at ho'; cases ho'
    exact ⟨_, es', ep', hL, r'⟩) hok I.bare
/-- behind a call (or a comprehension's block): the slots of this frame may have changed too, the records at ch may have turned -/
theorem Inv.call {g' : Array GenState} {t' : Nat} {d' : Drawn} {ch : List Addr} (I : Inv X pins σ H s) (u : Un (frs X.stack) ch H H' s.heap h') (hok : HOk X.prog X.w H' h') (hg : AllBare g')
    (hch : ∀ b ∈ ch, (b ∈ X.ex ∨ X.s_0.heap.objs.size ≤ b) ∧ b ≠ X.env.locals ∧ (∀ x c, X.env.cells.lookup x = some c → c ≠ b) ∧ ∀ p ∈ X.pn ++ pins, p.1 ≠ b) :
    Inv X pins σ H' { s with heap := h', gens := g', drawn := d', toks := t' } := by
  obtain ⟨m, ⟨o, es, ep, ho, r⟩, _⟩ := id I.loc
  obtain ⟨sl, hL⟩ := u.any ho I.free fun z => (hch _ z).2.1 rfl
  exact I.step (ch := ch) hch (fun b o hL hb hc e n => u.keep b o e n (fun z => (List.mem_cons.mp (I.stkSub b z)).elim hL hb) hc) (fun b o _ _ hc e n => u.any e n hc) (fun b o hc e n => u.free b o e n hc) (fun b o hc e => u.there b o e hc) u.tups u.frzs u.tbls (fun m' hm => by
    obtain ⟨o', es', ep', ho', r'⟩ := hm
    rw [ho] at ho'; cases ho'
    exact ⟨_, es', ep', hL, r'⟩) hok hg
/-- an untracked record of ours (an iterator) has turned -/
theorem Inv.turned {t' : Nat} {it : Addr} (I : Inv X pins σ H s) (k : ∀ b o, b ≠ it → s.heap.get? b = some o → h'.get? b = some o) (hn : H it = none) (hL : it ≠ X.env.locals)
    (h1 : it ∈ X.ex ∨ X.s_0.heap.objs.size ≤ it) (h2 : ∀ x c, X.env.cells.lookup x = some c → c ≠ it) (h3 : ∀ p ∈ X.pn ++ pins, p.1 ≠ it) : Inv X pins σ H { s with heap := h', toks := t' } := by
  have nit : ∀ b u, H b = some u → b ≠ it := fun b u e z => by rw [z, hn] at e; cases e
  refine I.step (g' := s.gens) (d' := s.drawn) (ch := [it]) (fun b hb => ?_) (fun b o _ _ hc e _ => k b o (fun z => hc (by simp [z])) e) (fun b o _ _ hc e _ => ⟨o.slots, k b o (fun z => hc (by simp [z])) e⟩) (fun _ _ _ _ n => n)
    (fun b o hc e => ⟨o, k b o (fun z => hc (by simp [z])) e⟩) (fun _ _ e => e) (fun _ _ _ e => e) (fun b ps e => ⟨#[], by rw [e]; simp⟩) (fun m hm => ?_) (fun b u e => ?_) I.bare
  · have e : b = it := by simpa using hb
    subst e
    exact ⟨h1, hL, h2, h3⟩
  · obtain ⟨o, es, ep, ho, r⟩ := hm
    exact ⟨o, es, ep, k _ o (Ne.symm hL) ho, r⟩
  · refine (I.hok b u e).stay (fun c v hc q => k c v ?_ q) (fun _ q => q) fun _ _ q => q
    rcases hc with z | z
    · rw [z]; exact nit b u e
    · exact nit c _ z
theorem Inv.tok (I : Inv X pins σ H s) (t : Nat) : Inv X pins σ H { s with toks := t } := I.un (h' := s.heap) (t' := t) Un.refl I.hok
/-- all objects kept -/
theorem Inv.kept {t' : Nat} (I : Inv X pins σ H s) (k : ∀ b u, s.heap.get? b = some u → h'.get? b = some u) : Inv X pins σ H { s with heap := h', toks := t' } := I.un (Un.kept k) (I.hok.kept k)
/-- a new object laid and tracked -/
theorem Inv.laid {a : Addr} {o : HO} {t' : Nat} (I : Inv X pins σ H s) (k : ∀ b u, s.heap.get? b = some u → h'.get? b = some u) (hp : s.heap.objs.size ≤ a) (new : ObjOk X.prog X.w (upd H a o) h' a o) :
    Inv X pins σ (upd H a o) { s with heap := h', toks := t' } := I.un (Un.laid k hp (I.hok.fresh hp)) (I.hok.laid k hp new)
/-- an object written -/
theorem Inv.write {x e : Addr} {o : HO} {t' : Nat} (I : Inv X pins σ H s) (mu : Mut (H x)) (he : e = x ∨ H e = some (.own x)) (k : ∀ b u, b ≠ e → s.heap.get? b = some u → h'.get? b = some u) (heo : ∃ u, h'.get? e = some u)
    (new : ObjOk X.prog X.w (upd H x o) h' x o) : Inv X pins σ (upd H x o) { s with heap := h', toks := t' } := I.un (Un.write mu he k heo) (I.hok.write mu he k heo new)
/-- forgetting slots, pins -/
theorem Inv.weak {σ' : List (Option V)} (I : Inv X pins σ H s) (hl : σ'.length = σ.length) (w : ∀ (i : Nat) v, σ'[i]? = some (some v) → σ[i]? = some (some v)) : Inv X pins σ' H s :=
  ⟨I.ok, I.os, I.bare, I.base, let ⟨m, hn, hl'⟩ := I.loc; ⟨m, hn, fun i x v e1 e2 e3 => hl' i x v e1 (w i v e2) e3⟩, I.cell, I.free, I.freeC, I.pin, I.hok, hl.trans I.len⟩
theorem Inv.pins_of {pins' : List (Addr × Obj)} (I : Inv X pins σ H s) (h : ∀ p ∈ pins', s.heap.get? p.1 = some p.2 ∧ H p.1 = none ∧ p.1 ≠ X.env.locals ∧ p.1 ∉ X.fs ∧ ∀ v, p.2.data ≠ .cell v) : Inv X pins' σ H s :=
  ⟨I.ok, I.os, I.bare, I.base, I.loc, I.cell, I.free, I.freeC, fun p hp => (List.mem_append.mp hp).elim (fun z => I.pin p (List.mem_append_left _ z)) (h p), I.hok, I.len⟩

theorem nodup_ix {N : List Str} (hN : N.Nodup) {i j : Nat} {x : Str} (a : N[i]? = some x) (b : N[j]? = some x) : i = j := by
  obtain ⟨h1, e1⟩ := List.getElem?_eq_some_iff.mp a
  obtain ⟨h2, e2⟩ := List.getElem?_eq_some_iff.mp b
  exact (List.getElem_inj hN).mp (e1.trans e2.symm)

/-- a name is stored; what changed -/
theorem store_ok2 {M : Model} {A : Around} {E : Value → Shared → Prop} {i : Nat} {x : Str} {v : V} {u : Value} {Q : Unit → Shared → Prop} (I : Inv X pins σ H s) (hN : X.N.Nodup) (hi : X.N[i]? = some x) (hx : Loc X.env.scope x) (r : RelV v u)
    (h : ∀ s', Inv X pins (σ.set i (some v)) H s' → (∃ a, Heap.SameBut a s.heap s'.heap ∧ (a = X.env.locals ∨ X.env.cells.lookup x = some a)) → Q () s') (hf : X.fn x = true ∨ X.env.scope.names.lookup x = some .local := by first | exact .inl rfl | exact .inr rfl | assumption) : wpAny M A (storeName X.env x u) Q E s := by
  obtain ⟨m, hn, hl⟩ := id I.loc
  have hcls : (X.env.scope.kind == .class || (X.env.scope.kind == .module && X.env.locals != X.env.globals)) = false := by rw [I.ok.kind]; rfl
  have hiσ : i < σ.length := by rw [I.len]; exact (List.getElem?_eq_some_iff.mp hi).1
  have cne := I.cne
  have tracked : ∀ {a : Addr} {h' : Heap}, (∃ o, s.heap.get? a = some o ∧ H a = none) → Heap.SameBut a s.heap h' → HOk X.prog X.w H h' := fun {a h'} ha hs b ob e => by
    obtain ⟨_, _, hfree⟩ := ha
    refine (I.hok b ob e).stay (fun c w' hc q => (hs.2 c ?_).trans q) (fun _ q => q) fun _ _ q => q
    rintro rfl
    rcases hc with rfl | hc
    · rw [hfree] at e; cases e
    · rw [hfree] at hc; cases hc
  rcases hx with hk | hk
  · refine wpAny_storeName_local hk hn (fun h' hn' hs => ?_) hcls
    obtain ⟨oL, _, _, hoL, _⟩ := id hn
    refine h _ ⟨I.ok, I.os, I.bare, ⟨fun b o e n hb hx => ?_, fun b o e n hb hx => ?_, I.base.free, fun b o e hx => ?_, I.base.tups, I.base.frzs, I.base.tbls⟩, ⟨_, hn', fun j y v' e1 e2 e3 => ?_⟩, fun y c e => ?_, I.free, I.freeC, fun p hp => ?_, tracked ⟨oL, hoL, I.free⟩ hs, by simpa using I.len⟩ ⟨_, hs, .inl rfl⟩
    · exact (hs.2 b (Nat.ne_of_lt (Nat.lt_of_lt_of_le (Heap.lt_size e) I.ok.above))).trans (I.base.keep b o e n hb hx)
    · obtain ⟨sl, e1⟩ := I.base.slot b o e n hb hx
      exact ⟨sl, (hs.2 b (Nat.ne_of_lt (Nat.lt_of_lt_of_le (Heap.lt_size e) I.ok.above))).trans e1⟩
    · obtain ⟨o', e1⟩ := I.base.there b o e hx
      exact ⟨o', (hs.2 b (Nat.ne_of_lt (Nat.lt_of_lt_of_le (Heap.lt_size e) I.ok.above))).trans e1⟩
    · by_cases hj : j = i
      · subst hj
        rw [hi] at e1; cases e1
        rw [List.getElem?_set_self hiσ] at e2
        cases e2
        exact ⟨u, r, .inl ⟨hk, by simp⟩⟩
      · rw [List.getElem?_set_ne (Ne.symm hj)] at e2
        obtain ⟨u', r', q⟩ := hl j y v' e1 e2 e3
        refine ⟨u', r', ?_⟩
        rcases q with ⟨k, e⟩ | ⟨k, c, e, z⟩
        · refine .inl ⟨k, ?_⟩
          have : y ≠ x := fun e => hj (nodup_ix hN e1 (e ▸ hi))
          simp [this, e]
        · exact .inr ⟨k, c, e, z.sameBut hs (cne y c e)⟩
    · obtain ⟨w', z⟩ := I.cell y c e
      exact ⟨w', z.sameBut hs (cne y c e)⟩
    · obtain ⟨e, n, ne, nf, d⟩ := I.pin p hp
      exact ⟨(hs.2 p.1 ne).trans e, n, ne, nf, d⟩
  · have hfn : X.fn x = true := by
      rcases hf with z | z
      · exact z
      · rw [z] at hk; cases hk
    obtain ⟨c, hc⟩ := I.ok.has x (.inl hk)
    obtain ⟨w', z⟩ := I.cell x c hc
    refine wpAny_storeName_cell I.ok.kind hk hc z (fun h' hc' hs => ?_)
    obtain ⟨oc, hoc, hocd⟩ := id z
    refine h { s with heap := h' } ⟨I.ok, I.os, I.bare, ⟨fun b o e n hb hx => ?_, fun b o e n hb hx => ?_, I.base.free, fun b o e hx => ?_, I.base.tups, I.base.frzs, I.base.tbls⟩, ⟨m, hn.sameBut hs (Ne.symm (cne x c hc)), fun j y v' e1 e2 e3 => ?_⟩, fun y c' e => ?_, I.free, I.freeC, fun p hp => ?_, tracked ⟨oc, hoc, I.freeC x c hc⟩ hs, by simpa using I.len⟩ ⟨c, hs, .inr hc⟩
    · exact (hs.2 b (Nat.ne_of_lt (Nat.lt_of_lt_of_le (Heap.lt_size e) (I.ok.cab x c hfn hc)))).trans (I.base.keep b o e n hb hx)
    · obtain ⟨sl, e1⟩ := I.base.slot b o e n hb hx
      exact ⟨sl, (hs.2 b (Nat.ne_of_lt (Nat.lt_of_lt_of_le (Heap.lt_size e) (I.ok.cab x c hfn hc)))).trans e1⟩
    · obtain ⟨o', e1⟩ := I.base.there b o e hx
      exact ⟨o', (hs.2 b (Nat.ne_of_lt (Nat.lt_of_lt_of_le (Heap.lt_size e) (I.ok.cab x c hfn hc)))).trans e1⟩
    · by_cases hj : j = i
      · subst hj
        rw [hi] at e1; cases e1
        rw [List.getElem?_set_self hiσ] at e2
        cases e2
        exact ⟨u, r, .inr ⟨.inl hk, c, hc, hc'⟩⟩
      · rw [List.getElem?_set_ne (Ne.symm hj)] at e2
        obtain ⟨u', r', q⟩ := hl j y v' e1 e2 e3
        refine ⟨u', r', ?_⟩
        rcases q with q | ⟨k, c', e, z'⟩
        · exact .inl q
        · refine .inr ⟨k, c', e, z'.sameBut hs ?_⟩
          rintro rfl
          exact hj (nodup_ix hN e1 (I.ok.inj _ _ _ e hc ▸ hi))
    · by_cases hcc : c' = c
      · subst hcc; exact ⟨_, hc'⟩
      · obtain ⟨w2, z2⟩ := I.cell y c' e
        exact ⟨w2, z2.sameBut hs hcc⟩
    · obtain ⟨e, n, ne, nf, d⟩ := I.pin p hp
      refine ⟨(hs.2 p.1 ?_).trans e, n, ne, nf, d⟩
      intro q
      rw [q, hoc] at e
      have q' : oc = p.2 := Option.some.inj e
      exact d w' (by rw [← q']; exact hocd)
theorem store_ok {M : Model} {A : Around} {E : Value → Shared → Prop} {i : Nat} {x : Str} {v : V} {u : Value} {Q : Unit → Shared → Prop} (I : Inv X pins σ H s) (hN : X.N.Nodup) (hi : X.N[i]? = some x) (hx : Loc X.env.scope x) (r : RelV v u)
    (h : ∀ s', Inv X pins (σ.set i (some v)) H s' → Q () s') (hf : X.fn x = true ∨ X.env.scope.names.lookup x = some .local := by first | exact .inl rfl | exact .inr rfl | assumption) : wpAny M A (storeName X.env x u) Q E s :=
  store_ok2 I hN hi hx r (fun s' I' _ => h s' I') hf
/-- behind a call or a block, the state as it is -/
theorem Inv.call' {s' : Shared} {ch : List Addr} (I : Inv X pins σ H s) (ho : s'.os = s.os) (u : Un (frs X.stack) ch H H' s.heap s'.heap) (hok : HOk X.prog X.w H' s'.heap) (hg : AllBare s'.gens)
    (hch : ∀ b ∈ ch, (b ∈ X.ex ∨ X.s_0.heap.objs.size ≤ b) ∧ b ≠ X.env.locals ∧ (∀ x c, X.env.cells.lookup x = some c → c ≠ b) ∧ ∀ p ∈ X.pn ++ pins, p.1 ≠ b) : Inv X pins σ H' s' := by
  obtain ⟨h', g', d', t', o'⟩ := s'
  have e : o' = s.os := ho
  subst e
  exact I.call (g' := g') (t' := t') (d' := d') u hok hg hch
end

/-! ### the judgements -/
/-- an exception: its class, its own dict's address (where it has one), the abstract heap behind it -/
abbrev XK := Value → Option Addr → Hp → Prop
abbrev St := List (Option V)
abbrev VK := V → Hp → Prop
/-- an expression's reading; a test's; an argument list's -/
abbrev TE := St → Hp → VK → Prop
abbrev TT := St → Hp → (Bool → Hp → Prop) → Prop
abbrev TA := St → Hp → (List V → Hp → Prop) → Prop
/-- what is wanted behind a statement -/
structure Ends where
  nx : St → Hp → Prop
  rt : VK
  bk : St → Hp → Prop := fun _ _ => False
  ct : St → Hp → Prop := fun _ _ => False
abbrev TS := Ends → St → Hp → Prop

def EP (X : Cx) (pins : List (Addr × Obj)) (σ : St) (Q : VK) (u : Value) (s' : Shared) : Prop := ∃ v H', Inv X pins σ H' s' ∧ RelV v u ∧ Q v H'
def TP (X : Cx) (pins : List (Addr × Obj)) (σ : St) (Q : Bool → Hp → Prop) (b : Bool) (s' : Shared) : Prop := ∃ H', Inv X pins σ H' s' ∧ Q b H'
def AP (X : Cx) (pins : List (Addr × Obj)) (σ : St) (Q : List V → Hp → Prop) (us : List Value) (s' : Shared) : Prop := ∃ vs H', Inv X pins σ H' s' ∧ Vals vs us ∧ Q vs H'
def SP (X : Cx) (pins : List (Addr × Obj)) (D : Ends) (f : Flow) (s' : Shared) : Prop :=
  match f with
  | .next => ∃ σ' H', Inv X pins σ' H' s' ∧ D.nx σ' H'
  | .brk => ∃ σ' H', Inv X pins σ' H' s' ∧ D.bk σ' H'
  | .cont => ∃ σ' H', Inv X pins σ' H' s' ∧ D.ct σ' H'
  | .ret u => ∃ v σ' H', Inv X pins σ' H' s' ∧ RelV v u ∧ D.rt v H'

def PE (X : Cx) (e : Expr) (t : TE) : Prop :=
  ∀ (pins : List (Addr × Obj)) (s : Shared) (σ : St) (H : Hp) (Q : VK), Inv X pins σ H s → t σ H Q → wpAny (model X.prog X.w) X.A (eval e X.env) (EP X pins σ Q) X.xe s
def PT (X : Cx) (e : Expr) (t : TT) : Prop :=
  ∀ (pins : List (Addr × Obj)) (s : Shared) (σ : St) (H : Hp) (Q : Bool → Hp → Prop), Inv X pins σ H s → t σ H Q → wpAny (model X.prog X.w) X.A (isTrue e X.env (eval e X.env)) (TP X pins σ Q) X.xe s
/-- a test whatever its 'whole' is (and, or) -/
def PW (X : Cx) (e : Expr) (t : TT) : Prop :=
  ∀ (whole : Sem Value) (pins : List (Addr × Obj)) (s : Shared) (σ : St) (H : Hp) (Q : Bool → Hp → Prop), Inv X pins σ H s → t σ H Q → wpAny (model X.prog X.w) X.A (isTrue e X.env whole) (TP X pins σ Q) X.xe s
theorem PW.pt {X : Cx} {e : Expr} {t : TT} (h : PW X e t) : PT X e t := h _
/-- an argument list (no star), from the left -/
def PA (X : Cx) (es : List Expr) (t : TA) : Prop :=
  ∀ (pos : Pos) (pins : List (Addr × Obj)) (s : Shared) (σ : St) (H : Hp) (Q : List V → Hp → Prop), Inv X pins σ H s → t σ H Q → wpAny (model X.prog X.w) X.A (spliced (backTo pos (starEach es X.env))) (AP X pins σ Q) X.xe s
def PS (X : Cx) (st : Stmt) (t : TS) : Prop :=
  ∀ (pins : List (Addr × Obj)) (s : Shared) (σ : St) (H : Hp) (D : Ends), Inv X pins σ H s → t D σ H → wpAny (model X.prog X.w) X.A (exec st X.env) (SP X pins D) X.xe s
def PSs (X : Cx) (st : List Stmt) (t : TS) : Prop :=
  ∀ (pins : List (Addr × Obj)) (s : Shared) (σ : St) (H : Hp) (D : Ends), Inv X pins σ H s → t D σ H → wpAny (model X.prog X.w) X.A (execs st X.env) (SP X pins D) X.xe s
/-- weaken the end -/
theorem thn {α : Type} {t : Sem α} {Q Q' : α → Shared → Prop} {M : Model} {A : Around} {E : Value → Shared → Prop} {s : Shared} (h : wpAny M A t Q E s) (hQ : ∀ a s, Q a s → Q' a s) : wpAny M A t Q' E s := wpAny_mono h hQ fun _ _ x => x
end L2

namespace L2
open PySem PySem.Spec PyProof.Rows
section
variable {X : Cx}


/-! ### names and constants -/
def tVar (i : Nat) : TE := fun σ H Q => ∃ v, σ[i]? = some (some v) ∧ Q v H
def tC (v : V) : TE := fun _ H Q => Q v H
theorem pe_var {i : Nat} {x : Str} {pos : Pos} (hN : X.N[i]? = some x) (hv : Vis X.env.scope x) (hd : (x == ("__debug__" : Str)) = false := by decide) (hcd : (x == ("__classdict__" : Str)) = false := by decide) : PE X (.Name x pos) (tVar i) := by
  intro pins s σ H Q I h
  obtain ⟨v, e, h⟩ := h
  obtain ⟨m, hn, hl⟩ := I.loc
  obtain ⟨u, r, l⟩ := hl i x v hN e hv
  have fin : EP X pins σ Q u s := ⟨v, H, I, r, h⟩
  rcases l with ⟨hk, hm⟩ | ⟨hk, c, hc, hcell⟩
  · exact wpAny_Name (wpAny_loadName_local I.ok.kind hk hn hm fin) hd
  · rcases hk with hk | hk
    · exact wpAny_Name (wpAny_loadName_cell I.ok.kind hk hc hcell fin) hd
    · exact wpAny_Name (wpAny_loadName_free I.ok.kind hk hc hcell fin hcd) hd
theorem pe_int {i j pos} : PE X (.Constant (.int i) j pos) (tC (.int i)) := fun _ _ _ H _ I h => wpAny_Constant_int ⟨.int i, H, I.tok _, ⟨_, rfl⟩, h⟩
theorem pe_bl {b j pos} : PE X (.Constant (.bool b) j pos) (tC (.bl b)) := fun _ _ _ H _ I h => Constant_bool ⟨.bl b, H, I, rfl, h⟩
theorem pe_non {j pos} : PE X (.Constant .none j pos) (tC .non) := fun _ _ _ H _ I h => Constant_none ⟨.non, H, I, rfl, h⟩

/-- a global name of the def -/
def Gl (X : Cx) (x : Str) : Prop := X.env.kindOf x = some .globalImplicit
theorem ld_glob {E : Value → Shared → Prop} {pins : List (Addr × Obj)} {s : Shared} {σ : St} {H : Hp} {x : Str} {u : Value} {pos : Pos} {Q : Value → Shared → Prop} (I : Inv X pins σ H s) (hg : Gl X x) (hm : X.mg x = some u) (h : Q u s)
    (hd : (x == ("__debug__" : Str)) = false := by decide) : wpAny (model X.prog X.w) X.A (eval (.Name x pos) X.env) Q E s :=
  Calls.Name_function_global I.ok.kind hg (Calls.loadGlobal_global (by rw [I.ok.glob]; exact I.mod.glob.keeps I.bk) hm h) hd
theorem ld_blt {E : Value → Shared → Prop} {pins : List (Addr × Obj)} {s : Shared} {σ : St} {H : Hp} {x : Str} {u : Value} {pos : Pos} {Q : Value → Shared → Prop} (I : Inv X pins σ H s) (hg : Gl X x) (hm : X.mg x = none) (hv : bootBuiltins x = some u) (h : Q u s)
    (hn : x ≠ "__name__" := by decide) (hd : (x == ("__debug__" : Str)) = false := by decide) : wpAny (model X.prog X.w) X.A (eval (.Name x pos) X.env) Q E s := by
  obtain ⟨mb, h1, h2⟩ := I.mod.blt
  exact Calls.Name_function_global I.ok.kind hg (Calls.loadGlobal_builtin (by rw [I.ok.glob]; exact I.mod.glob.keeps I.bk) hm (by rw [I.ok.blt]; exact h1.keeps I.bk) ((h2 x hn).trans hv) h) hd
/-- a module's constant, a class, a function, as a value -/
theorem pe_glob {x : Str} {v : V} {u : Value} {pos : Pos} (hg : Gl X x) (hm : X.mg x = some u) (r : RelV v u) (hd : (x == ("__debug__" : Str)) = false := by decide) : PE X (.Name x pos) (tC v) :=
  fun _ _ _ H _ I h => ld_glob I hg hm ⟨v, H, I, r, h⟩ hd

/-! ### arithmetic -/
variable {a b : Expr} {ta tb : TE} {pos : Pos}

/-! ### comparisons -/
/-- a comparison as a value, as a test -/
def tB (t : TE) : TT := fun σ H Q => t σ H fun x H1 => ∃ c, x = .bl c ∧ Q c H1
/-- an expression whose value is a bool, as a test -/
theorem pt_val {e : Expr} {t : TE} (h : PE X e t) (he : ∀ whole, isTrue e X.env whole = (do let v ← whole; standAt e.pos; holding [v] (truthy v)) := by intro _; rfl) : PT X e (tB t) := by
  intro pins s σ H Q I hw
  refine isTrue_plain (thn (h pins s σ H _ I hw) fun v s1 ⟨x, H1, I1, r1, q1⟩ => ?_) (he _)
  obtain ⟨d, rfl, q⟩ := q1
  cases r1
  exact wpAny_truthy_bool ⟨H1, I1, q⟩

/-! ### and, or, not -/
variable {tA tB' : TT} {rest : List Expr}
def tAnd (t u : TT) : TT := fun σ H Q => t σ H fun c H1 => if c = true then u σ H1 Q else Q false H1
def tOr (t u : TT) : TT := fun σ H Q => t σ H fun c H1 => if c = true then Q true H1 else u σ H1 Q
def tNot (t : TT) : TT := fun σ H Q => t σ H fun c H1 => Q (!c) H1
theorem pw_and1 (ha : PT X a tA) : PW X (.BoolOp .And [a] pos) tA := by
  intro wh pins s σ H Q I h
  refine isTrue_and (thn (ha pins s σ H Q I h) fun c s1 e => ?_)
  cases c with
  | true => exact isTrue_and_nil e
  | false => exact e
theorem pw_or1 (ha : PT X a tA) : PW X (.BoolOp .Or [a] pos) tA := by
  intro wh pins s σ H Q I h
  refine isTrue_or (thn (ha pins s σ H Q I h) fun c s1 e => ?_)
  cases c with
  | false => exact isTrue_or_nil e
  | true => exact e
theorem pw_and (ha : PT X a tA) (hb : PW X (.BoolOp .And (b :: rest) pos) tB') : PW X (.BoolOp .And (a :: b :: rest) pos) (tAnd tA tB') := by
  intro wh pins s σ H Q I h
  refine isTrue_and (thn (ha pins s σ H _ I h) fun c s1 ⟨H1, I1, q1⟩ => ?_)
  cases c with
  | true => exact hb wh pins s1 σ H1 Q I1 q1
  | false => exact ⟨H1, I1, q1⟩
theorem pw_or (ha : PT X a tA) (hb : PW X (.BoolOp .Or (b :: rest) pos) tB') : PW X (.BoolOp .Or (a :: b :: rest) pos) (tOr tA tB') := by
  intro wh pins s σ H Q I h
  refine isTrue_or (thn (ha pins s σ H _ I h) fun c s1 ⟨H1, I1, q1⟩ => ?_)
  cases c with
  | true => exact ⟨H1, I1, q1⟩
  | false => exact hb wh pins s1 σ H1 Q I1 q1
theorem pt_not (ha : PT X a tA) : PT X (.UnaryOp .Not a pos) (tNot tA) := by
  intro pins s σ H Q I h
  exact isTrue_not (ha pins s σ H (fun c H1 => Q (!c) H1) I h)
/-- .. as values (bools) -/
def tAndV (ta tb : TE) : TE := fun σ H Q => ta σ H fun x H1 => ∃ c, x = .bl c ∧ if c = true then tb σ H1 Q else Q (.bl false) H1
def tOrV (ta tb : TE) : TE := fun σ H Q => ta σ H fun x H1 => ∃ c, x = .bl c ∧ if c = true then Q (.bl true) H1 else tb σ H1 Q
theorem pe_one {op} {t : TE} (h : PE X a t) : PE X (.BoolOp op [a] pos) t := fun pins s σ H Q I hw => BoolOp_one (h pins s σ H Q I hw)
theorem pe_and (ha : PE X a ta) (hb : PE X (.BoolOp .And (b :: rest) pos) tb) : PE X (.BoolOp .And (a :: b :: rest) pos) (tAndV ta tb) := by
  intro pins s σ H Q I h
  refine BoolOp_and (thn (ha pins s σ H _ I h) fun v s1 ⟨x, H1, I1, r1, q1⟩ => ?_)
  obtain ⟨c, rfl, q1⟩ := q1
  cases r1
  refine wpAny_truthy_bool ?_
  cases c with
  | true => exact hb pins s1 σ H1 Q I1 q1
  | false => exact ⟨.bl false, H1, I1, rfl, q1⟩
theorem pe_or (ha : PE X a ta) (hb : PE X (.BoolOp .Or (b :: rest) pos) tb) : PE X (.BoolOp .Or (a :: b :: rest) pos) (tOrV ta tb) := by
  intro pins s σ H Q I h
  refine BoolOp_or (thn (ha pins s σ H _ I h) fun v s1 ⟨x, H1, I1, r1, q1⟩ => ?_)
  obtain ⟨c, rfl, q1⟩ := q1
  cases r1
  refine wpAny_truthy_bool ?_
  cases c with
  | false => exact hb pins s1 σ H1 Q I1 q1
  | true => exact ⟨.bl true, H1, I1, rfl, q1⟩
end
end L2

namespace L2
open PySem PySem.Spec PyProof.Rows

/-! ### a list, a tuple that is read: tracked, frozen, or an object of the module -/
def SqL (K : PySem.W.Frag) (H : Hp) (a : Addr) (xs : List V) : Prop :=
  Rd H a (.lst xs) ∨
    ∃ (o : Obj) (its : Array Value) (n : Nat), K.lookup a = some o ∧ o.cls = .type "list" ∧ o.dict = none ∧ o.data = .seq its n ∧ its.size ≤ sizeLine ∧ Vals xs its.toList
def SqT (K : PySem.W.Frag) (H : Hp) (a : Addr) (xs : List V) : Prop :=
  Rd H a (.tup xs) ∨
    ∃ (o : Obj) (its : Array Value) (n : Nat), K.lookup a = some o ∧ o.cls = .type "tuple" ∧ o.data = .seq its n ∧ its.size ≤ sizeLine ∧ Vals xs its.toList
def absV : Value → Option V
  | .none => some .non
  | .bool b => some (.bl b)
  | .int i _ => some (.int i)
  | .str x _ => some (.str x)
  | .bytes b _ => some (.byt b)
  | .float b _ => some (.flt b)
  | .ref a => some (.ref a)
  | .type n => some (.ty n)
  | _ => none
theorem RelV.abs {x : V} {u : Value} (r : RelV x u) : absV u = some x := by
  cases x with
  | non => cases r; rfl
  | bl _ => cases r; rfl
  | int _ => obtain ⟨t, rfl⟩ := r; rfl
  | str _ => obtain ⟨t, rfl⟩ := r; rfl
  | byt _ => obtain ⟨t, rfl⟩ := r; rfl
  | flt _ => obtain ⟨t, rfl⟩ := r; rfl
  | ref _ => cases r; rfl
  | ty _ => cases r; rfl
theorem RelV.inj {x y : V} {u : Value} (r : RelV x u) (q : RelV y u) : x = y := Option.some.inj (r.abs.symm.trans q.abs)
theorem Vals.inj : ∀ {xs ys : List V} {us : List Value}, Vals xs us → Vals ys us → xs = ys
  | _, _, _, .nil, .nil => rfl
  | _, _, _, .cons r t, .cons r' t' => by rw [r.inj r', Vals.inj t t']
section
variable {X : Cx} {pins : List (Addr × Obj)} {σ : St} {H : Hp} {s : Shared} {a : Addr} {xs ys : List V}
theorem SqL.of {K : PySem.W.Frag} (h : H a = some (.lst xs)) : SqL K H a xs := .inl (.inl h)
theorem Inv.list (I : Inv X pins σ H s) (h : SqL X.K H a xs) : ∃ its : List Value, Vals xs its ∧ PlainL s.heap a its.toArray ∧ xs.length ≤ sizeLine := by
  rcases h with h | ⟨o, its, n, hk, hc, hd, hs, hz, r⟩
  · obtain ⟨z, its, n, r, e⟩ := h.ok I.hok
    exact ⟨its, r, ⟨_, n, e, rfl, rfl, rfl⟩, z⟩
  · refine ⟨its.toList, r, ⟨o, n, I.kIn a o hk, hc, hd, by simpa using hs⟩, ?_⟩
    have e := r.length
    simp only [Array.length_toList] at e
    omega
theorem Inv.tuple (I : Inv X pins σ H s) (h : SqT X.K H a xs) : ∃ its : List Value, Vals xs its ∧ IsTup s.heap a its.toArray ∧ xs.length ≤ sizeLine := by
  rcases h with h | ⟨o, its, n, hk, hc, hs, hz, r⟩
  · obtain ⟨z, its, r, p⟩ := h.ok I.hok
    exact ⟨its, r, p, z⟩
  · refine ⟨its.toList, r, ⟨o, I.kIn a o hk, hc, n, by simpa using hs⟩, ?_⟩
    have e := r.length
    simp only [Array.length_toList] at e
    omega
theorem Inv.list_inj (I : Inv X pins σ H s) (h : SqL X.K H a xs) (h' : SqL X.K H a ys) : xs = ys := by
  obtain ⟨its, r, ⟨o, n, e, _, _, d⟩, _⟩ := I.list h
  obtain ⟨its', r', ⟨o', n', e', _, _, d'⟩, _⟩ := I.list h'
  rw [e] at e'; cases e'
  rw [d] at d'
  injection d' with d1 _
  have : its = its' := by simpa using congrArg Array.toList d1
  subst this
  exact r.inj r'
end

/-! ### another wish about exceptions -/
abbrev Cx.wish (X : Cx) (E : Value → Shared → Prop) : Cx := { X with xe := E }
/-- no exception leaves -/
abbrev Cx.nox (X : Cx) : Cx := X.wish fun _ _ => False
theorem Cx.Ok.wish {X : Cx} (ok : X.Ok) (E : Value → Shared → Prop) : (X.wish E).Ok :=
  ⟨ok.mod, ok.kind, ok.glob, ok.blt, ok.above, ok.inj, ok.has, ok.cab, ok.hd, ok.frames, ok.stk, ok.exf, ok.bs, ok.bsz, ok.noex, ok.exfs, ok.funs, ok.frf⟩
theorem Cx.Ok.unwish {X : Cx} {E : Value → Shared → Prop} (ok : (X.wish E).Ok) : X.Ok :=
  ⟨ok.mod, ok.kind, ok.glob, ok.blt, ok.above, ok.inj, ok.has, ok.cab, ok.hd, ok.frames, ok.stk, ok.exf, ok.bs, ok.bsz, ok.noex, ok.exfs, ok.funs, ok.frf⟩
section
variable {X : Cx} {pins : List (Addr × Obj)} {σ : St} {H : Hp} {s : Shared} {E : Value → Shared → Prop}
theorem Inv.wish (I : Inv X pins σ H s) (E : Value → Shared → Prop) : Inv (X.wish E) pins σ H s := ⟨I.ok.wish E, I.os, I.bare, I.base, I.loc, I.cell, I.free, I.freeC, I.pin, I.hok, I.len⟩
theorem Inv.unwish (I : Inv (X.wish E) pins σ H s) : Inv X pins σ H s := ⟨I.ok.unwish, I.os, I.bare, I.base, I.loc, I.cell, I.free, I.freeC, I.pin, I.hok, I.len⟩
theorem SP.unwish {D : Ends} {f : Flow} {s' : Shared} (h : SP (X.wish E) pins D f s') : SP X pins D f s' := by
  cases f with
  | next => obtain ⟨σ', H', I, q⟩ := h; exact ⟨σ', H', I.unwish, q⟩
  | brk => obtain ⟨σ', H', I, q⟩ := h; exact ⟨σ', H', I.unwish, q⟩
  | cont => obtain ⟨σ', H', I, q⟩ := h; exact ⟨σ', H', I.unwish, q⟩
  | ret u => obtain ⟨v, σ', H', I, r, q⟩ := h; exact ⟨v, σ', H', I.unwish, r, q⟩
theorem PSs.nox {st : List Stmt} {t : TS} (h : PSs X.nox st t) : PSs X st t := fun pins s σ H D I hw =>
  wpAny_mono (h pins s σ H D (I.wish _) hw) (fun _ _ q => q.unwish) fun _ _ z => False.elim z
end

/-! ### blocks and small statements -/
section
variable {X : Cx} {st : Stmt} {rest : List Stmt} {t u : TS} {e : Expr} {te : TE} {pos : Pos}
def tNext : TS := fun D σ H => D.nx σ H
def tSeq (t u : TS) : TS := fun D σ H => t { D with nx := u D } σ H
theorem pss_nil : PSs X [] tNext := fun _ _ σ H _ I h => wpAny_execs_nil ⟨σ, H, I, h⟩
theorem pss_cons (h1 : PS X st t) (h2 : PSs X rest u) : PSs X (st :: rest) (tSeq t u) := by
  intro pins s σ H D I h
  refine wpAny_execs_cons (thn (h1 pins s σ H { D with nx := u D } I h) fun f s1 q => ?_)
  cases f with
  | next =>
    obtain ⟨σ', H', I', q⟩ := q
    exact h2 pins s1 σ' H' D I' q
  | ret v => exact q
  | brk => exact q
  | cont => exact q
theorem pss_one (h1 : PS X st t) : PSs X [st] t := by
  intro pins s σ H D I h
  refine wpAny_execs_cons (thn (h1 pins s σ H D I h) fun f s1 q => ?_)
  cases f with
  | next => exact wpAny_execs_nil q
  | ret v => exact q
  | brk => exact q
  | cont => exact q
def tCont : TS := fun D σ H => D.ct σ H
theorem ps_continue : PS X (.Continue pos) tCont := fun _ _ σ H _ I h => wpAny_Continue ⟨σ, H, I, h⟩
/-- in a def's body nothing is shown -/
theorem Inv.quiet {pins : List (Addr × Obj)} {σ : St} {H : Hp} {s : Shared} (I : Inv X pins σ H s) : interactive X.env = false := by simp [interactive, I.ok.kind]
/-- an expression whose value is dropped -/
def tDrop (te : TE) : TS := fun D σ H => te σ H fun _ H1 => D.nx σ H1
theorem ps_expr (he : PE X e te) (hs : swapsWith e none pos.line X.env = pure false := by rfl) : PS X (.Expr e pos) (tDrop te) := by
  intro pins s σ H D I h
  exact wpAny_Expr_any (thn (he pins s σ H _ I h) fun v s1 ⟨x, H1, I1, r1, q1⟩ => ⟨σ, H1, I1, q1⟩) I.quiet hs
def tRet (te : TE) : TS := fun D σ H => te σ H D.rt
theorem ps_ret (he : PE X e te) : PS X (.Return (some e) pos) (tRet te) := by
  intro pins s σ H D I h
  exact wpAny_Return_some (thn (he pins s σ H _ I h) fun v s1 ⟨x, H1, I1, r1, q1⟩ => ⟨x, σ, H1, I1, r1, q1⟩)
def tIfS (c : TT) (t u : TS) : TS := fun D σ H => c σ H fun b H1 => if b = true then t D σ H1 else u D σ H1
theorem ps_if {c : Expr} {a b : List Stmt} {tc : TT} (hc : PT X c tc) (ha : PSs X a t) (hb : PSs X b u) : PS X (.If c a b pos) (tIfS tc t u) := by
  intro pins s σ H D I h
  refine wpAny_If (thn (hc pins s σ H _ I h) fun d s1 ⟨H1, I1, q1⟩ => ?_)
  cases d with
  | true => exact ha pins s1 σ H1 D I1 q1
  | false => exact hb pins s1 σ H1 D I1 q1
end

/-! ### targets -/
abbrev TG := V → St → Hp → (St → Hp → Prop) → Prop
def PG (X : Cx) (target : Expr) (t : TG) : Prop :=
  ∀ (pins : List (Addr × Obj)) (s : Shared) (σ : St) (H : Hp) (v : V) (u : Value) (Q : St → Hp → Prop), Inv X pins σ H s → RelV v u → t v σ H Q →
    wpAny (model X.prog X.w) X.A (assign target X.env u) (fun _ s' => ∃ σ' H', Inv X pins σ' H' s' ∧ Q σ' H') X.xe s
/-- o[i] = v, by values -/
abbrev TSet := V → V → V → Hp → (Hp → Prop) → Prop
def PSet (X : Cx) (t : TSet) : Prop :=
  ∀ (pins : List (Addr × Obj)) (s : Shared) (σ : St) (H : Hp) (o i v : V) (ov iv u : Value) (Q : Hp → Prop), Inv X pins σ H s → RelV o ov → RelV i iv → RelV v u → t o i v H Q →
    wpAny (model X.prog X.w) X.A (setItem ov iv u) (fun _ s' => ∃ H', Inv X pins σ H' s' ∧ Q H') X.xe s
section
variable {X : Cx} {pos : Pos}
def gName (i : Nat) : TG := fun v σ H Q => Q (σ.set i (some v)) H
theorem pg_name {i : Nat} {x : Str} (hN : X.N.Nodup) (hi : X.N[i]? = some x) (hx : Loc X.env.scope x) (hf : X.fn x = true ∨ X.env.scope.names.lookup x = some .local := by first | exact .inl rfl | exact .inr rfl | assumption) : PG X (.Name x pos) (gName i) := by
  intro pins s σ H v u Q I r h
  exact wpAny_assign_Name (store_ok I hN hi hx r (fun s' I' => ⟨_, H, I', h⟩) hf)
/-- o[i] = .. -/
def gSub (to ti : TE) (t : TSet) : TG := fun v σ H Q => to σ H fun o H1 => ti σ H1 fun i H2 => t o i v H2 fun H3 => Q σ H3
theorem pg_sub {o i : Expr} {to ti : TE} {t : TSet} (ho : PE X o to) (hi : PE X i ti) (hs : PSet X t)
    (ha : ∀ v, assign (.Subscript o i pos) X.env v = (do
      let ov ← holding [v] (eval o X.env)
      let iv ← holding [v, ov] (eval i X.env)
      standAt pos
      holding [v, ov, iv] (setItem ov iv v)
      release [v, ov, iv] []) := by intro _; rfl) : PG X (.Subscript o i pos) (gSub to ti t) := by
  intro pins s σ H v u Q I r h
  rw [ha]
  refine wpAny_bind (wpAny_holding (thn (ho pins s σ H _ I h) fun ov s1 ⟨x, H1, I1, r1, q1⟩ => ?_))
  refine wpAny_bind (wpAny_holding (thn (hi pins s1 σ H1 _ I1 q1) fun iv s2 ⟨y, H2, I2, r2, q2⟩ => ?_))
  refine wpAny_bind (wpAny_standAt (wpAny_bind (wpAny_holding (thn (hs pins s2 σ H2 x y v ov iv u _ I2 r1 r2 r q2) fun _ s3 ⟨H3, I3, q3⟩ => ?_))))
  exact wpAny_release ⟨σ, H3, I3, q3⟩
/-- target = value -/
def tAsg (te : TE) (g : TG) : TS := fun D σ H => te σ H fun x H1 => g x σ H1 D.nx
theorem ps_asg {tg e : Expr} {te : TE} {g : TG} (he : PE X e te) (hg : PG X tg g) (hs : swapsWithSole [tg] e pos.line X.env = pure false := by rfl) (hw : swappedStores [tg] e X.env = pure none := by rfl)
    (h1 : (assignEach [tg] X.env).map (·.2) = [assign tg X.env] := by rfl) : PS X (.Assign [tg] e pos) (tAsg te g) := by
  intro pins s σ H D I h
  refine wpAny_Assign_stores (thn (he pins s σ H _ I h) fun v s1 ⟨x, H1, I1, r1, q1⟩ => ?_) hs hw
  rw [h1]
  exact thn (hg pins s1 σ H1 x v _ I1 r1 q1) fun _ s2 q => q
/-- name = value -/
theorem ps_set {i : Nat} {x : Str} {e : Expr} {te : TE} {pos' : Pos} (hN : X.N.Nodup) (hi : X.N[i]? = some x) (hx : Loc X.env.scope x) (he : PE X e te) (hs : swapsWith e (some (.Name x pos')) pos.line X.env = pure false := by rfl) (hf : X.fn x = true ∨ X.env.scope.names.lookup x = some .local := by first | exact .inl rfl | exact .inr rfl | assumption) :
    PS X (.Assign [.Name x pos'] e pos) (tAsg te (gName i)) := by
  intro pins s σ H D I h
  refine wpAny_Assign_Name (thn (he pins s σ H _ I h) fun v s1 ⟨y, H1, I1, r1, q1⟩ => ?_) hs
  exact store_ok I1 hN hi hx r1 (fun s2 I2 => ⟨_, H1, I2, q1⟩) hf
end

/-! ### while -/
section
variable {X : Cx} {pos : Pos}
/-- the invariant W with its measure -/
def tWhile (c : TT) (tb : TS) : TS := fun D σ H => ∃ W : Nat → St → Hp → Prop, (∃ m, W m σ H) ∧ ∀ m σ H, W m σ H →
  c σ H fun b H1 => if b = true then ∃ N : St → Hp → Prop, (∀ σ' H', N σ' H' → ∃ m', m' < m ∧ W m' σ' H') ∧ tb { D with nx := N, ct := N, bk := D.nx } σ H1 else D.nx σ H1
theorem ps_while {c : Expr} {body : List Stmt} {tc : TT} {tb : TS} (hp : PassesOwn (model X.prog X.w) X.A X.env X.xe) (hc : PT X c tc) (hb : PSs X body tb) : PS X (.While c body [] pos) (tWhile tc tb) := by
  intro pins s σ H D I h
  obtain ⟨W, ⟨m0, w0⟩, turn⟩ := h
  refine wpAny_While (codeAny_whileLoop (fun n s' => ∃ σ' H', Inv X pins σ' H' s' ∧ W n σ' H') ?_ m0 ⟨σ, H, I, w0⟩)
  rintro n s1 ⟨σ1, H1, I1, w1⟩
  refine wpAny_passesOwn hp (thn (hc pins s1 σ1 H1 _ I1 (turn n σ1 H1 w1)) fun b s2 ⟨H2, I2, q2⟩ => ?_)
  cases b with
  | true =>
    obtain ⟨N, hN, q2⟩ := q2
    rw [if_pos rfl]
    refine wpAny_passesOwn hp (thn (hb pins s2 σ1 H2 _ I2 q2) fun f s3 q3 => ?_)
    cases f with
    | next =>
      obtain ⟨σ3, H3, I3, n3⟩ := q3
      obtain ⟨m', hm, w3⟩ := hN σ3 H3 n3
      exact ⟨m', hm, σ3, H3, I3, w3⟩
    | cont =>
      obtain ⟨σ3, H3, I3, n3⟩ := q3
      obtain ⟨m', hm, w3⟩ := hN σ3 H3 n3
      exact ⟨m', hm, σ3, H3, I3, w3⟩
    | brk => exact q3
    | ret v => exact q3
  | false =>
    rw [if_neg Bool.false_ne_true]
    exact wpAny_execs_nil ⟨σ1, H2, I2, q2⟩
end

/-! ### what a loop or a comprehension walks -/
/-- at turn i: it yields x (the heap may grow), or it stops -/
structure It where
  go : Nat → Hp → Prop
  yld : Nat → Hp → V → Hp → Prop
  stop : Nat → Hp → Prop
/-- the iterator's own objects may turn: they are not the frame's, not pinned, younger than the entry (or a comprehension's own) -/
def FpOk (X : Cx) (pins : List (Addr × Obj)) (H : Hp) (b : Addr) : Prop :=
  H b = none ∧ b ≠ X.env.locals ∧ b ∉ X.fs ∧ (b ∈ X.ex ∨ X.s_0.heap.objs.size ≤ b) ∧ (∀ x c, X.env.cells.lookup x = some c → c ≠ b) ∧ ∀ p ∈ X.pn ++ pins, p.1 ≠ b
theorem Inv.fpOk {X : Cx} {pins : List (Addr × Obj)} {σ : St} {H H' : Hp} {s : Shared} {b : Addr} (I : Inv X pins σ H s) (hb : s.heap.objs.size ≤ b) (hn : H' b = none) : FpOk X pins H' b := by
  refine ⟨hn, Nat.ne_of_gt (Nat.lt_of_lt_of_le I.lt hb), I.nofs hb, .inr (Nat.le_trans I.sz hb), fun x c e z => ?_, fun p hp z => ?_⟩
  · obtain ⟨v, q⟩ := I.cell x c e
    exact absurd (Nat.lt_of_lt_of_le q.lt (by rw [z]; exact hb)) (Nat.lt_irrefl _)
  · exact absurd (Nat.lt_of_lt_of_le (Heap.lt_size (I.pin p hp).1) (by rw [z]; exact hb)) (Nat.lt_irrefl _)
structure Turn (P : Program) (w : World) (K : PySem.W.Frag) (tg : Expr) (J : It) (fp : List Addr) (it : Addr) (tn : Nat → Heap → Prop) : Prop where
  mem : it ∈ fp
  obj : ∀ i h, tn i h → ∀ b ∈ fp, ∃ o, h.get? b = some o ∧ ∀ v, o.data ≠ .cell v
  keep : ∀ i h h', tn i h → (∀ b ∈ fp, ∀ o, h.get? b = some o → h'.get? b = some o) → tn i h'
  item : ∀ (X : Cx), X.prog = P → X.w = w → X.K = K → X.calm = true → ∀ (i : Nat) (pins : List (Addr × Obj)) (s : Shared) (σ : St) (H : Hp) (E : Value → Shared → Prop), Inv X pins σ H s → (∀ b ∈ fp, FpOk X pins H b) → tn i s.heap → J.go i H →
    wpAny (model P w) X.A (pyNext (.ref it)) (fun r s1 => ∃ u, r = some u ∧
      wpAny (model P w) X.A (letOwnedTupleGo tg (.ref it) u) (fun _ s2 => ∃ x H', Inv X pins σ H' s2 ∧ RelV x u ∧ J.yld i H x H' ∧ tn (i + 1) s2.heap ∧ ∀ b ∈ fp, H' b = none) E s1) E s
  done : ∀ (X : Cx), X.prog = P → X.w = w → X.K = K → X.calm = true → ∀ (i : Nat) (pins : List (Addr × Obj)) (s : Shared) (σ : St) (H : Hp) (E : Value → Shared → Prop), Inv X pins σ H s → (∀ b ∈ fp, FpOk X pins H b) → tn i s.heap → J.stop i H →
    wpAny (model P w) X.A (pyNext (.ref it)) (fun r s1 => r = none ∧ Inv X pins σ H s1) E s
  self : ∀ (A : Around) (i : Nat) (s : Shared) (Q : Value → Shared → Prop) (E : Value → Shared → Prop), tn i s.heap → Q (.ref it) s → wpAny (model P w) A (pyIter (.ref it)) Q E s
abbrev TI := St → Hp → (It → Hp → Prop) → Prop
/-- an iterator has come -/
def PIE (X : Cx) (pins : List (Addr × Obj)) (σ : St) (tg : Expr) (R : It → Hp → Prop) (itv : Value) (s2 : Shared) : Prop :=
  ∃ (it : Addr) (fp : List Addr) (tn : Nat → Heap → Prop) (J : It) (H' : Hp), itv = .ref it ∧ Inv X pins σ H' s2 ∧ Turn X.prog X.w X.K tg J fp it tn ∧ tn 0 s2.heap ∧ (∀ b ∈ fp, FpOk X pins H' b) ∧ R J H'
def PI (X : Cx) (tg iter : Expr) (wi : TI) : Prop :=
  ∀ (pins : List (Addr × Obj)) (s : Shared) (σ : St) (H : Hp) (R : It → Hp → Prop), Inv X pins σ H s → wi σ H R →
    wpAny (model X.prog X.w) X.A (eval iter X.env) (fun v s1 => wpAny (model X.prog X.w) X.A (pyIter v) (PIE X pins σ tg R) X.xe s1) X.xe s

/-- the step ahead of the store is nothing for an iterator that keeps no tuple -/
theorem go_of {M : Model} {A : Around} {E : Value → Shared → Prop} {s : Shared} {tg : Expr} {it : Addr} {u : Value} {o : Obj} {n : String} {vs : Array Value} {Q : Unit → Shared → Prop} (ho : s.heap.get? it = some o) (hc : o.cls = .type n) (hd : o.data = .fields vs)
    (hn : ["enumerate", "zip", "dict_itemiterator", "dict_reverseitemiterator", "odict_iterator", "itertools.zip_longest", "itertools.pairwise"].contains n = false) (hQ : Q () s) : wpAny M A (letOwnedTupleGo tg (.ref it) u) Q E s := by
  unfold letOwnedTupleGo
  cases tg <;> first
    | exact wpAny_pure hQ
    | (cases u <;> first
        | exact wpAny_pure hQ
        | (refine wpAny_bind (wpAny_load ho ?_)
           rw [hc, hd]
           show wpAny M A (if (["enumerate", "zip", "dict_itemiterator", "dict_reverseitemiterator", "odict_iterator", "itertools.zip_longest", "itertools.pairwise"].contains n && vs[0]? == some (rawInt _)) = true then _ else _) Q E s
           rw [if_neg (by intro h; rw [hn, Bool.false_and] at h; cases h)]
           exact wpAny_pure hQ))

/-- the list at a, as it stands at each turn (a loop may append to it) -/
def Itl (K : PySem.W.Frag) (a : Addr) : It :=
  ⟨fun i H => ∃ xs x, SqL K H a xs ∧ xs[i]? = some x, fun i H x H' => H' = H ∧ ∀ xs, SqL K H a xs → xs[i]? = some x, fun i H => ∃ xs, SqL K H a xs ∧ xs.length ≤ i⟩
/-- lo, lo + 1, .. (n of them) -/
def Itr (lo : Int) (n : Nat) : It := ⟨fun i _ => i < n, fun i H x H' => H' = H ∧ x = .int (lo + i), fun i _ => n ≤ i⟩
theorem turn_list {P : Program} {w : World} {K : PySem.W.Frag} {tg : Expr} (a it : Addr) : Turn P w K tg (Itl K a) [it] it (fun i h => h.IsListIter it a i) where
  mem := by simp
  obj := fun i h st b hb => by
    have e : b = it := by simpa using hb
    subst e
    obtain ⟨o, e, c, d⟩ := st
    exact ⟨o, e, fun v z => by rw [d] at z; cases z⟩
  keep := fun i h h' st k => st.at fun o e => k it (by simp) o e
  item := by
    intro X hP hw hK hc i pins s σ H E I hf st hg
    subst hP hw hK
    obtain ⟨xs, x, hq, hx⟩ := hg
    obtain ⟨its, rv, p, hz⟩ := I.list hq
    obtain ⟨u, hu, ru⟩ := rv.get hx
    obtain ⟨f0, f1, f2, f3, f4, f5⟩ := hf it (by simp)
    refine wpAny_pyNext_list_item st p.isList (x := u) (by simpa using hu) fun h' st' sb => ?_
    have I1 : Inv X pins σ H { s with heap := h' } := I.turned (t' := s.toks) (fun b o hb e => (sb.2 b hb).trans e) f0 f1 f3 f4 f5
    obtain ⟨o, e, c, d⟩ := id st'
    exact ⟨u, rfl, go_of (s := { s with heap := h' }) e c d (by decide) ⟨x, H, I1, ru, ⟨rfl, fun ys hy => by rw [I.list_inj hy hq]; exact hx⟩, st', fun b hb => (hf b hb).1⟩⟩
  done := by
    intro X hP hw hK hc i pins s σ H E I hf st hg
    subst hP hw hK
    obtain ⟨xs, hq, hx⟩ := hg
    obtain ⟨its, rv, p, hz⟩ := I.list hq
    obtain ⟨f0, f1, f2, f3, f4, f5⟩ := hf it (by simp)
    have hl := rv.length
    exact wpAny_pyNext_list_end (I.ok.hd hc) st p.isList (by simp; omega) fun h' eb => ⟨rfl, I.turned (t' := s.toks) (fun b o hb e => eb b o hb e) f0 f1 f3 f4 f5⟩
  self := fun _ _ _ _ _ st h => wpAny_pyIter_listiter st h
theorem turn_range {P : Program} {w : World} {K : PySem.W.Frag} {tg : Expr} (it : Addr) (lo : Int) (n : Nat) : Turn P w K tg (Itr lo n) [it] it (fun i h => IsRangeIter h it (lo + (i : Nat) * 1) ((n : Int) - (i : Nat)) 1) where
  mem := by simp
  obj := fun i h st b hb => by
    have e : b = it := by simpa using hb
    subst e
    exact ⟨_, st, fun v z => by
      have z' : Data.fields _ = Data.cell v := z
      cases z'⟩
  keep := fun i h h' st k => k it (by simp) _ st
  item := by
    intro X hP hw hK hc i pins s σ H E I hf st hg
    subst hP hw hK
    obtain ⟨f0, f1, f2, f3, f4, f5⟩ := hf it (by simp)
    have W := Walks.range (prog := X.prog) (w := X.w) (I.ok.hd hc) it lo 1 n
    refine W.item i s _ _ hg st fun v h' tk hv st' kk => ?_
    obtain ⟨t, rfl⟩ := hv
    have I1 : Inv X pins σ H { s with heap := h', toks := tk } := I.turned (fun b o hb e => kk b o (by simpa using hb) e) f0 f1 f3 f4 f5
    refine ⟨_, rfl, go_of (s := { s with heap := h', toks := tk }) (n := "range_iterator") st' rfl rfl (by decide) ⟨.int (lo + i), H, I1, ⟨t, ?_⟩, ⟨rfl, rfl⟩, st', fun b hb => (hf b hb).1⟩⟩
    rw [Int.mul_one]
  done := by
    intro X hP hw hK hc i pins s σ H E I hf st hg
    subst hP hw hK
    obtain ⟨f0, f1, f2, f3, f4, f5⟩ := hf it (by simp)
    exact wpAny_pyNext_range_end (I.ok.hd hc) st (by have : n ≤ i := hg; omega) fun h' eb => ⟨rfl, I.turned (t' := s.toks) (fun b o hb e => eb b o hb e) f0 f1 f3 f4 f5⟩
  self := fun _ _ _ _ _ st h => wpAny_pyIter_rangeiter st h
end L2

namespace L2
open PySem PySem.Spec PyProof.Rows
section
variable {X : Cx} {tg : Expr}
def iList (K : PySem.W.Frag) (tl : TE) : TI := fun σ H R => tl σ H fun x H1 => ∃ a, x = .ref a ∧ (∃ xs, SqL K H1 a xs) ∧ R (Itl K a) H1
theorem pi_list {l : Expr} {tl : TE} (hl : PE X l tl) : PI X tg l (iList X.K tl) := by
  intro pins s σ H R I h
  refine thn (hl pins s σ H _ I h) fun v s1 ⟨x, H1, I1, r1, q1⟩ => ?_
  obtain ⟨a, e, ⟨xs, hq⟩, q⟩ := q1
  subst e
  cases r1
  obtain ⟨its, rv, p, hz⟩ := I1.list hq
  refine wpAny_pyIter_list p.isList ?_
  refine ⟨s1.heap.objs.size, [s1.heap.objs.size], _, _, H1, rfl, I1.kept (t' := s1.toks) fun b o e => Heap.get?_push_of_some _ e, turn_list a _, ⟨_, Heap.get?_push_size _ rfl, rfl, rfl⟩, fun b hb => ?_, q⟩
  have e : b = s1.heap.objs.size := by simpa using hb
  subst e
  exact I1.fpOk (Nat.le_refl _) (I1.hok.fresh (Nat.le_refl _))
/-- a range object just made, walked -/
theorem range_it {pins : List (Addr × Obj)} {σ : St} {H : Hp} {s : Shared} {R : It → Hp → Prop} {E : Value → Shared → Prop} {lo hi : Int} {t u v : Tok} {tk : Nat} (I : Inv X pins σ H s) (h1 : -(2 ^ 62) ≤ lo) (h2 : lo < 2 ^ 62) (h3 : -(2 ^ 62) ≤ hi) (h4 : hi < 2 ^ 62)
    (q : R (Itr lo (hi - lo).toNat) H) : wpAny (model X.prog X.w) X.A (pyIter (.ref s.heap.objs.size)) (PIE X pins σ tg R) E { s with heap := s.heap.push { cls := .type "range", data := .fields #[.int lo t, .int hi u, .int 1 v] }, toks := tk } := by
  refine wpAny_pyIter_range (IsRange.new ..) (small_one h1 h2 h3 h4) ?_
  have I1 : Inv X pins σ H { s with heap := s.heap.push { cls := .type "range", data := .fields #[.int lo t, .int hi u, .int 1 v] }, toks := tk } := I.kept fun b o e => Heap.get?_push_of_some _ e
  refine ⟨(s.heap.push { cls := .type "range", data := .fields #[.int lo t, .int hi u, .int 1 v] }).objs.size, [(s.heap.push { cls := .type "range", data := .fields #[.int lo t, .int hi u, .int 1 v] }).objs.size], _, _, H, rfl,
    I1.kept (t' := tk) fun b o e => Heap.get?_push_of_some _ e, turn_range _ lo (hi - lo).toNat, ?_, fun b hb => ?_, q⟩
  · have e1 : lo + ((0 : Nat) : Int) * 1 = lo := by simp
    have e2 : (((hi - lo).toNat : Nat) : Int) - ((0 : Nat) : Int) = Builtin.Range.rangeSize lo hi 1 := by rw [rangeSize_one]; split <;> omega
    show IsRangeIter _ _ (lo + ((0 : Nat) : Int) * 1) ((((hi - lo).toNat : Nat) : Int) - ((0 : Nat) : Int)) 1
    rw [e1, e2]
    exact Heap.get?_push_size _ rfl
  · have e : b = (s.heap.push { cls := .type "range", data := .fields #[.int lo t, .int hi u, .int 1 v] }).objs.size := by simpa using hb
    subst e
    exact I1.fpOk (Nat.le_refl _) (I1.hok.fresh (Nat.le_refl _))
def iRng1 (ta : TA) : TI := fun σ H R => ta σ H fun vs H1 => ∃ j : Int, vs = [.int j] ∧ -(2 ^ 62) ≤ j ∧ j < 2 ^ 62 ∧ R (Itr 0 j.toNat) H1
theorem pi_range1 {a : Expr} {ta : TA} {p pos : Pos} (hg : Gl X "range") (hm : X.mg "range" = none) (ha : PA X [a] ta) (hs : starEach [a] X.env = [(false, eval a X.env)] := by rfl) : PI X tg (.Call (.Name "range" p) [a] [] pos) (iRng1 ta) := by
  intro pins s σ H R I h
  refine Call_ (ld_blt I hg hm boot_range (PyProof.Rows.callWith_type1 (thn (ha pos pins s σ H _ I h) fun us s1 ⟨vs, H1, I1, r1, q1⟩ => ?_) hs rfl))
  obtain ⟨j, e, q1, q2, q⟩ := q1
  subst e
  cases r1 with
  | cons r rr =>
    cases rr
    obtain ⟨t, rfl⟩ := r
    exact call_range_1 (range_it I1 (by omega) (by omega) q1 q2 (by simpa using q))

/-! ### for -/
/-- W: the invariant by the turn and a measure; N: what the body is to reach -/
def tFor (wi : TI) (g : TG) (tb : TS) : TS := fun D σ H => wi σ H fun J H1 => ∃ W : Nat → Nat → St → Hp → Prop, (∃ m, W 0 m σ H1) ∧ ∀ i m σ H, W i m σ H →
  (J.stop i H ∧ D.nx σ H) ∨ (J.go i H ∧ ∃ N : St → Hp → Prop, (∀ σ' H', N σ' H' → ∃ m', m' < m ∧ W (i + 1) m' σ' H') ∧ ∀ x H', J.yld i H x H' → g x σ H' fun σ2 H2 => tb { D with nx := N, ct := N, bk := D.nx } σ2 H2)
/-- the records at fp as they stand -/
def pinsAt (fp : List Addr) (h : Heap) : List (Addr × Obj) := fp.filterMap fun b => (h.get? b).map fun o => (b, o)
theorem mem_pinsAt {fp : List Addr} {h : Heap} {b : Addr} {o : Obj} (hb : b ∈ fp) (e : h.get? b = some o) : (b, o) ∈ pinsAt fp h := List.mem_filterMap.mpr ⟨b, hb, by rw [e]; rfl⟩
theorem of_pinsAt {fp : List Addr} {h : Heap} {p : Addr × Obj} (hp : p ∈ pinsAt fp h) : p.1 ∈ fp ∧ h.get? p.1 = some p.2 := by
  obtain ⟨b, hb, e⟩ := List.mem_filterMap.mp hp
  cases q : h.get? b with
  | none => rw [q] at e; cases e
  | some o =>
    rw [q] at e
    have e' : (b, o) = p := Option.some.inj e
    subst e'
    exact ⟨hb, q⟩
theorem Inv.pinned {pins : List (Addr × Obj)} {σ : St} {H : Hp} {s : Shared} {fp : List Addr} (I : Inv X pins σ H s) (hf : ∀ b ∈ fp, FpOk X pins H b) (ho : ∀ b ∈ fp, ∃ o, s.heap.get? b = some o ∧ ∀ v, o.data ≠ .cell v) : Inv X (pins ++ pinsAt fp s.heap) σ H s :=
  I.pins_of fun p hp => (List.mem_append.mp hp).elim (fun z => I.pin p (List.mem_append_right _ z)) fun z => by
    obtain ⟨hb, e⟩ := of_pinsAt z
    obtain ⟨f0, f1, f2, _⟩ := hf p.1 hb
    obtain ⟨o, e', d⟩ := ho p.1 hb
    rw [e] at e'; cases e'
    exact ⟨e, f0, f1, f2, d⟩
theorem Inv.unpinned {pins pl : List (Addr × Obj)} {σ : St} {H : Hp} {s : Shared} (I : Inv X (pins ++ pl) σ H s) : Inv X pins σ H s := I.pins_of fun p hp => I.pin p (List.mem_append_right _ (List.mem_append_left _ hp))
theorem ps_for {iter : Expr} {body : List Stmt} {wi : TI} {g : TG} {tb : TS} {pos : Pos} (hp : PassesOwn (model X.prog X.w) X.A X.env X.xe) (hc : X.calm = true) (hi : PI X tg iter wi) (hg : PG X tg g) (hb : PSs X body tb)
    (hs : ∀ x, foldedSetIterable iter X.env x = pure x := by intro _; rfl) : PS X (.For tg iter body [] pos) (tFor wi g tb) := by
  intro pins s σ H D I h
  refine wpAny_For (thn (hi pins s σ H _ I h) fun v s1 h1 => thn h1 fun itv s2 h2 => ?_) hs
  obtain ⟨it, fp, tn, J, H2, e, I2, T, st2, f2, W, ⟨m0, w0⟩, turn⟩ := h2
  subst e
  -- what stays true of the iterator's objects through the loop
  have stat : ∀ {H' : Hp}, (∀ b ∈ fp, H' b = none) → ∀ b ∈ fp, FpOk X pins H' b := fun hn b hb => ⟨hn b hb, (f2 b hb).2⟩
  refine codeAny_forLoop_any (fun n s' => ∃ i σ' H', Inv X pins σ' H' s' ∧ tn i s'.heap ∧ (∀ b ∈ fp, H' b = none) ∧ W i n σ' H') ?_ m0 ⟨0, σ, H2, I2, st2, fun b hb => (f2 b hb).1, w0⟩
  rintro n s3 ⟨i, σ3, H3, I3, st3, fr3, w3⟩
  rcases turn i n σ3 H3 w3 with ⟨stop, qn⟩ | ⟨go, N, hN, step⟩
  · refine wpAny_passesOwn hp (thn (T.done X rfl rfl rfl hc i pins s3 σ3 H3 X.xe I3 (stat fr3) st3 stop) fun r s4 ⟨hr, I4⟩ => ?_)
    subst hr
    exact wpAny_execs_nil ⟨σ3, H3, I4, qn⟩
  · refine wpAny_passesOwn hp (thn (T.item X rfl rfl rfl hc i pins s3 σ3 H3 X.xe I3 (stat fr3) st3 go) fun r s4 ⟨u, hr, h4⟩ => ?_)
    subst hr
    refine wpAny_passesOwn hp (thn h4 fun _ s5 ⟨x, H5, I5, r5, y5, st5, fr5⟩ => ?_)
    have I5' := I5.pinned (stat fr5) (T.obj _ _ st5)
    refine wpAny_passesOwn hp (thn (hg _ s5 σ3 H5 x u _ I5' r5 (step x H5 y5)) fun _ s6 ⟨σ6, H6, I6, q6⟩ => ?_)
    refine wpAny_passesOwn hp (thn (hb _ s6 σ6 H6 _ I6 q6) fun f s7 q7 => ?_)
    have again : ∀ {σ7 : St} {H7 : Hp}, Inv X (pins ++ pinsAt fp s5.heap) σ7 H7 s7 → N σ7 H7 → ∃ m, m < n ∧ ∃ i σ' H', Inv X pins σ' H' s7 ∧ tn i s7.heap ∧ (∀ b ∈ fp, H' b = none) ∧ W i m σ' H' := fun {σ7 H7} I7 n7 => by
      obtain ⟨m', hm, w7⟩ := hN σ7 H7 n7
      refine ⟨m', hm, i + 1, σ7, H7, I7.unpinned, T.keep _ _ _ st5 fun b hb o e => (I7.pin (b, o) (List.mem_append_right _ (List.mem_append_right _ (mem_pinsAt hb e)))).1, fun b hb => ?_, w7⟩
      obtain ⟨o, e, d⟩ := T.obj _ _ st5 b hb
      exact (I7.pin (b, o) (List.mem_append_right _ (List.mem_append_right _ (mem_pinsAt hb e)))).2.1
    cases f with
    | next => obtain ⟨σ7, H7, I7, n7⟩ := q7; exact again I7 n7
    | cont => obtain ⟨σ7, H7, I7, n7⟩ := q7; exact again I7 n7
    | brk => obtain ⟨σ7, H7, I7, q7⟩ := q7; exact ⟨σ7, H7, I7.unpinned, q7⟩
    | ret v => obtain ⟨x7, σ7, H7, I7, r7, q7⟩ := q7; exact ⟨x7, σ7, H7, I7.unpinned, r7, q7⟩
end

/-! ### the forms one uses -/
/-- over a list that the body leaves as it is -/
theorem for_list {K : PySem.W.Frag} {a : Addr} {xs : List V} {g : TG} {tb : TS} {D : Ends} {σ : St} {H : Hp} (Pv : Nat → St → Hp → Prop) (h0 : Pv 0 σ H) (hl : ∀ i σ H, i ≤ xs.length → Pv i σ H → SqL K H a xs)
    (hs : ∀ i x σ H, xs[i]? = some x → Pv i σ H → g x σ H fun σ2 H2 => tb { D with nx := Pv (i + 1), ct := Pv (i + 1), bk := D.nx } σ2 H2) (hd : ∀ σ H, Pv xs.length σ H → D.nx σ H) :
    ∃ W : Nat → Nat → St → Hp → Prop, (∃ m, W 0 m σ H) ∧ ∀ i m σ H, W i m σ H →
      ((Itl K a).stop i H ∧ D.nx σ H) ∨ ((Itl K a).go i H ∧ ∃ N : St → Hp → Prop, (∀ σ' H', N σ' H' → ∃ m', m' < m ∧ W (i + 1) m' σ' H') ∧ ∀ x H', (Itl K a).yld i H x H' → g x σ H' fun σ2 H2 => tb { D with nx := N, ct := N, bk := D.nx } σ2 H2) := by
  refine ⟨fun i m σ H => m = xs.length - i ∧ i ≤ xs.length ∧ Pv i σ H, ⟨xs.length, by simp, Nat.zero_le _, h0⟩, ?_⟩
  rintro i m σ H ⟨rfl, hi, p⟩
  have q := hl i σ H hi p
  by_cases hlt : i < xs.length
  · refine .inr ⟨⟨xs, xs[i], q, by simp [hlt]⟩, Pv (i + 1), fun σ' H' p' => ⟨xs.length - (i + 1), by omega, rfl, hlt, p'⟩, fun x H' y => ?_⟩
    obtain ⟨e, y⟩ := y
    subst e
    exact hs i x σ _ (y xs q) p
  · have e : i = xs.length := by omega
    subst e
    exact .inl ⟨⟨xs, q, Nat.le_refl _⟩, hd σ H p⟩
theorem for_range {lo : Int} {n : Nat} {g : TG} {tb : TS} {D : Ends} {σ : St} {H : Hp} (Pv : Nat → St → Hp → Prop) (h0 : Pv 0 σ H)
    (hs : ∀ i σ H, i < n → Pv i σ H → g (.int (lo + i)) σ H fun σ2 H2 => tb { D with nx := Pv (i + 1), ct := Pv (i + 1), bk := D.nx } σ2 H2) (hd : ∀ σ H, Pv n σ H → D.nx σ H) :
    ∃ W : Nat → Nat → St → Hp → Prop, (∃ m, W 0 m σ H) ∧ ∀ i m σ H, W i m σ H →
      ((Itr lo n).stop i H ∧ D.nx σ H) ∨ ((Itr lo n).go i H ∧ ∃ N : St → Hp → Prop, (∀ σ' H', N σ' H' → ∃ m', m' < m ∧ W (i + 1) m' σ' H') ∧ ∀ x H', (Itr lo n).yld i H x H' → g x σ H' fun σ2 H2 => tb { D with nx := N, ct := N, bk := D.nx } σ2 H2) := by
  refine ⟨fun i m σ H => m = n - i ∧ i ≤ n ∧ Pv i σ H, ⟨n, by simp, Nat.zero_le _, h0⟩, ?_⟩
  rintro i m σ H ⟨rfl, hi, p⟩
  by_cases hlt : i < n
  · refine .inr ⟨hlt, Pv (i + 1), fun σ' H' p' => ⟨n - (i + 1), by omega, rfl, hlt, p'⟩, fun x H' y => ?_⟩
    obtain ⟨e, y⟩ := y
    subst e y
    exact hs i σ _ hlt p
  · have e : i = n := by omega
    subst e
    exact .inl ⟨Nat.le_refl _, hd σ H p⟩
end L2

namespace L2
open PySem PySem.Spec PyProof.Rows

abbrev R2 := V → V → Hp → VK → Prop
/-- a two-place operation on values: f is binaryOp op, inplaceOp op or compareOp op -/
def OpR (X : Cx) (f : Value → Value → Sem Value) (r : R2) : Prop :=
  ∀ (pins : List (Addr × Obj)) (s : Shared) (σ : St) (H : Hp) (x y : V) (v u : Value) (Q : VK), Inv X pins σ H s → RelV x v → RelV y u → r x y H Q →
    wpAny (model X.prog X.w) X.A (f v u) (EP X pins σ Q) X.xe s
/-- a call of a value that is known (a builtin, a type) with values -/
def CallR (X : Cx) (f : Value) (r : List V → Hp → VK → Prop) : Prop :=
  ∀ (pins : List (Addr × Obj)) (s : Shared) (σ : St) (H : Hp) (xs : List V) (us : List Value) (Q : VK), Inv X pins σ H s → Vals xs us → r xs H Q →
    wpAny (model X.prog X.w) X.A (call f us) (EP X pins σ Q) X.xe s
/-- a value's truth -/
def TruR (X : Cx) (r : V → Hp → (Bool → Hp → Prop) → Prop) : Prop :=
  ∀ (pins : List (Addr × Obj)) (s : Shared) (σ : St) (H : Hp) (x : V) (v : Value) (Q : Bool → Hp → Prop), Inv X pins σ H s → RelV x v → r x H Q →
    wpAny (model X.prog X.w) X.A (truthy v) (TP X pins σ Q) X.xe s

def tOp (r : R2) (ta tb : TE) : TE := fun σ H Q => ta σ H fun x H1 => tb σ H1 fun y H2 => r x y H2 Q
/-- ints in, under C, and a value out -/
def rI (C : Int → Int → Prop) (g : Int → Int → V) : R2 := fun x y H Q => ∃ i j, x = .int i ∧ y = .int j ∧ C i j ∧ Q (g i j) H
def rI0 (g : Int → Int → V) : R2 := fun x y H Q => ∃ i j, x = .int i ∧ y = .int j ∧ Q (g i j) H

section
variable {X : Cx} {a b c : Expr} {ta tb tc : TE} {pos : Pos}

theorem binT (ha : PE X a ta) (hb : PE X b tb) {pins : List (Addr × Obj)} {s : Shared} {σ : St} {H : Hp} {R : V → V → Hp → Prop} (I : Inv X pins σ H s)
    (h : ta σ H fun x H1 => tb σ H1 fun y H2 => R x y H2) {Q : Value → Shared → Prop} {f : Value → Value → Sem Value}
    (hf : ∀ v u s2 x y H2, Inv X pins σ H2 s2 → RelV x v → RelV y u → R x y H2 → wpAny (model X.prog X.w) X.A (f v u) Q X.xe s2) :
    wpAny (model X.prog X.w) X.A (eval a X.env) (fun v s₁ => wpAny (model X.prog X.w) X.A (eval b X.env) (fun u s₂ => wpAny (model X.prog X.w) X.A (f v u) Q X.xe s₂) X.xe s₁) X.xe s := by
  refine thn (ha pins s σ H _ I h) fun v s1 ⟨x, H1, I1, r1, q1⟩ => ?_
  refine thn (hb pins s1 σ H1 _ I1 q1) fun u s2 ⟨y, H2, I2, r2, q2⟩ => ?_
  exact hf v u s2 x y H2 I2 r1 r2 q2

theorem pe_op {op : Operator} {r : R2} (ho : OpR X (binaryOp op) r) (ha : PE X a ta) (hb : PE X b tb) : PE X (.BinOp a op b pos) (tOp r ta tb) := by
  intro pins s σ H Q I h
  exact wpAny_BinOp (binT ha hb I h fun v u s2 x y H2 I2 rx ry q => ho pins s2 σ H2 x y v u Q I2 rx ry q)

/-! ### ints -/
theorem opI {f : Value → Value → Sem Value} {C : Int → Int → Prop} {g : Int → Int → Int}
    (rule : ∀ (i j : Int) (t u : Tok) (s : Shared) (Q : Value → Shared → Prop) (E : Value → Shared → Prop), C i j → Q (.int (g i j) s.toks) { s with toks := s.toks + 1 } → wpAny (model X.prog X.w) X.A (f (.int i t) (.int j u)) Q E s) :
    OpR X f (rI C fun i j => .int (g i j)) := by
  intro pins s σ H x y v u Q I rx ry h
  obtain ⟨i, j, rfl, rfl, hc, q⟩ := h
  obtain ⟨t, rfl⟩ := rx
  obtain ⟨t', rfl⟩ := ry
  exact rule i j t t' s _ _ hc ⟨.int (g i j), H, I.tok _, ⟨_, rfl⟩, q⟩
theorem opI0 {f : Value → Value → Sem Value} {g : Int → Int → Int}
    (rule : ∀ (i j : Int) (t u : Tok) (s : Shared) (Q : Value → Shared → Prop) (E : Value → Shared → Prop), Q (.int (g i j) s.toks) { s with toks := s.toks + 1 } → wpAny (model X.prog X.w) X.A (f (.int i t) (.int j u)) Q E s) :
    OpR X f (rI0 fun i j => .int (g i j)) := by
  intro pins s σ H x y v u Q I rx ry h
  obtain ⟨i, j, rfl, rfl, q⟩ := h
  obtain ⟨t, rfl⟩ := rx
  obtain ⟨t', rfl⟩ := ry
  exact rule i j t t' s _ _ ⟨.int (g i j), H, I.tok _, ⟨_, rfl⟩, q⟩
theorem opB0 {f : Value → Value → Sem Value} {g : Int → Int → Bool}
    (rule : ∀ (i j : Int) (t u : Tok) (s : Shared) (Q : Value → Shared → Prop) (E : Value → Shared → Prop), Q (.bool (g i j)) s → wpAny (model X.prog X.w) X.A (f (.int i t) (.int j u)) Q E s) :
    OpR X f (rI0 fun i j => .bl (g i j)) := by
  intro pins s σ H x y v u Q I rx ry h
  obtain ⟨i, j, rfl, rfl, q⟩ := h
  obtain ⟨t, rfl⟩ := rx
  obtain ⟨t', rfl⟩ := ry
  exact rule i j t t' s _ _ ⟨.bl (g i j), H, I, rfl, q⟩

def CDiv (i j : Int) : Prop := 0 < j ∧ j < 1073741824
def CMul (i j : Int) : Prop := (-(2 ^ 64) < i ∧ i < 2 ^ 64) ∨ (-(2 ^ 64) < j ∧ j < 2 ^ 64)
theorem CMul.ok {i j : Int} (h : CMul i j) : IntMulOk i j := by
  rcases h with ⟨h1, h2⟩ | ⟨h1, h2⟩
  · exact .of_left (intBits_le_64 h1 h2)
  · exact .of_right (intBits_le_64 h1 h2)

theorem op_add : OpR X (binaryOp .Add) (rI0 fun i j => .int (i + j)) := opI0 fun _ _ _ _ _ _ _ q => add_int q
theorem op_sub : OpR X (binaryOp .Sub) (rI0 fun i j => .int (i - j)) := opI0 fun _ _ _ _ _ _ _ q => sub_int q
theorem op_mul : OpR X (binaryOp .Mult) (rI CMul fun i j => .int (i * j)) := opI fun _ _ _ _ _ _ _ hc q => mul_int q hc.ok
/-- // by a positive divisor -/
theorem op_fdiv : OpR X (binaryOp .FloorDiv) (rI CDiv fun i j => .int (i / j)) := opI fun i j _ _ _ _ _ hc q => by
  have h1 : (0 : Int) < j := hc.1
  have h2 : j < 1073741824 := hc.2
  exact floordiv_int (by omega) (by rw [Int.fdiv_eq_ediv_of_nonneg i (by omega)]; exact q) (.inl (PyProof.noPylong_small (by omega)))
/-- % by a positive divisor of any size -/
theorem op_mod : OpR X (binaryOp .Mod) (rI (fun _ j => 0 < j) fun i j => .int (i % j)) := opI fun i j _ _ _ _ _ hc q => by
  have h1 : (0 : Int) < j := hc
  exact mod_int' (by omega) (by rw [Int.fmod_eq_emod_of_nonneg i (by omega)]; exact q)



/-! ### bools among ints: n += (a < b) -/
end

/-! ### comparisons -/
/-- the scalars that == tells apart as data does -/
def scal : V → V → Bool
  | .non, .non => true | .non, .int _ => true | .int _, .non => true | .non, .bl _ => true | .bl _, .non => true | .non, .str _ => true | .str _, .non => true
  | .int _, .int _ => true | .bl _, .bl _ => true | .str _, .str _ => true | .byt _, .byt _ => true
  | .int _, .str _ => true | .str _, .int _ => true | .bl _, .str _ => true | .str _, .bl _ => true
  | _, _ => false
def rEq : R2 := fun x y H Q => scal x y = true ∧ Q (.bl (decide (x = y))) H
def rNe : R2 := fun x y H Q => scal x y = true ∧ Q (.bl (!decide (x = y))) H

theorem dec_int {i j : Int} : decide (V.int i = V.int j) = (i == j) := by
  rw [Bool.eq_iff_iff]
  simp
theorem dec_bl {i j : Bool} : decide (V.bl i = V.bl j) = (i == j) := by
  rw [Bool.eq_iff_iff]
  simp
theorem dec_str {i j : Str} : decide (V.str i = V.str j) = (i == j) := by
  rw [Bool.eq_iff_iff]
  simp
theorem dec_byt {i j : Array UInt8} : decide (V.byt i = V.byt j) = (i.toList == j.toList) := by
  rw [Bool.eq_iff_iff]
  cases i
  cases j
  simp

section
variable {X : Cx} {a b c : Expr} {ta tb tc : TE} {pos : Pos}
theorem fin_bl {pins : List (Addr × Obj)} {σ : St} {H : Hp} {s : Shared} {Q : VK} {k k' : Bool} (I : Inv X pins σ H s) (q : Q (.bl k) H) (e : k = k') : EP X pins σ Q (.bool k') s := by
  subst e
  exact ⟨.bl k, H, I, rfl, q⟩
theorem op_eq : OpR X (compareOp .Eq) rEq := by
  intro pins s σ H x y v u Q I rx ry h
  obtain ⟨hs, q⟩ := h
  cases x with
  | non =>
    cases rx
    cases y with
    | non => cases ry; exact PySem.EqNone.eq_none_none (fin_bl I q (by simp))
    | bl j => cases ry; exact PySem.EqNone.eq_none_bool (fin_bl I q (by simp))
    | int j => obtain ⟨t', rfl⟩ := ry; exact PySem.EqNone.eq_none_int (fin_bl I q (by simp))
    | str j => obtain ⟨t', rfl⟩ := ry; exact PySem.EqNone.eq_none_str (fin_bl I q (by simp))
    | _ => exact absurd (show false = true from hs) Bool.false_ne_true
  | bl i =>
    cases rx
    cases y with
    | non => cases ry; exact PySem.EqNone.eq_bool_none (fin_bl I q (by simp))
    | bl j => cases ry; exact eq_bool (fin_bl I q dec_bl)
    | str j => obtain ⟨t', rfl⟩ := ry; exact PySem.EqMixed.eq_bool_str (fin_bl I q (by simp))
    | _ => exact absurd (show false = true from hs) Bool.false_ne_true
  | int i =>
    obtain ⟨t, rfl⟩ := rx
    cases y with
    | non => cases ry; exact PySem.EqNone.eq_int_none (fin_bl I q (by simp))
    | int j => obtain ⟨t', rfl⟩ := ry; exact eq_int (fin_bl I q dec_int)
    | str j => obtain ⟨t', rfl⟩ := ry; exact PySem.EqMixed.eq_int_str (fin_bl I q (by simp))
    | _ => exact absurd (show false = true from hs) Bool.false_ne_true
  | str i =>
    obtain ⟨t, rfl⟩ := rx
    cases y with
    | non => cases ry; exact PySem.EqNone.eq_str_none (fin_bl I q (by simp))
    | bl j => cases ry; exact PySem.EqMixed.eq_str_bool (fin_bl I q (by simp))
    | int j => obtain ⟨t', rfl⟩ := ry; exact PySem.EqMixed.eq_str_int (fin_bl I q (by simp))
    | str j => obtain ⟨t', rfl⟩ := ry; exact eq_str (fin_bl I q dec_str)
    | _ => exact absurd (show false = true from hs) Bool.false_ne_true
  | byt i =>
    obtain ⟨t, rfl⟩ := rx
    cases y with
    | byt j => obtain ⟨t', rfl⟩ := ry; exact PySem.W.eq_bytes (fin_bl I q dec_byt)
    | _ => exact absurd (show false = true from hs) Bool.false_ne_true
  | _ => cases y <;> exact absurd (show false = true from hs) Bool.false_ne_true
theorem op_ne : OpR X (compareOp .NotEq) rNe := by
  intro pins s σ H x y v u Q I rx ry h
  obtain ⟨hs, q⟩ := h
  cases x with
  | non =>
    cases rx
    cases y with
    | non => cases ry; exact PySem.EqNone.ne_none_none (fin_bl I q (by simp))
    | bl j => cases ry; exact PySem.EqNone.ne_none_bool (fin_bl I q (by simp))
    | int j => obtain ⟨t', rfl⟩ := ry; exact PySem.EqNone.ne_none_int (fin_bl I q (by simp))
    | str j => obtain ⟨t', rfl⟩ := ry; exact PySem.EqNone.ne_none_str (fin_bl I q (by simp))
    | _ => exact absurd (show false = true from hs) Bool.false_ne_true
  | bl i =>
    cases rx
    cases y with
    | non => cases ry; exact PySem.EqNone.ne_bool_none (fin_bl I q (by simp))
    | bl j => cases ry; exact ne_bool (fin_bl I q (congrArg not dec_bl))
    | str j => obtain ⟨t', rfl⟩ := ry; exact PySem.EqMixed.ne_bool_str (fin_bl I q (by simp))
    | _ => exact absurd (show false = true from hs) Bool.false_ne_true
  | int i =>
    obtain ⟨t, rfl⟩ := rx
    cases y with
    | non => cases ry; exact PySem.EqNone.ne_int_none (fin_bl I q (by simp))
    | int j => obtain ⟨t', rfl⟩ := ry; exact ne_int (fin_bl I q (congrArg not dec_int))
    | str j => obtain ⟨t', rfl⟩ := ry; exact PySem.EqMixed.ne_int_str (fin_bl I q (by simp))
    | _ => exact absurd (show false = true from hs) Bool.false_ne_true
  | str i =>
    obtain ⟨t, rfl⟩ := rx
    cases y with
    | non => cases ry; exact PySem.EqNone.ne_str_none (fin_bl I q (by simp))
    | bl j => cases ry; exact PySem.EqMixed.ne_str_bool (fin_bl I q (by simp))
    | int j => obtain ⟨t', rfl⟩ := ry; exact PySem.EqMixed.ne_str_int (fin_bl I q (by simp))
    | str j => obtain ⟨t', rfl⟩ := ry; exact ne_str (fin_bl I q (congrArg not dec_str))
    | _ => exact absurd (show false = true from hs) Bool.false_ne_true
  | byt i =>
    obtain ⟨t, rfl⟩ := rx
    cases y with
    | byt j => obtain ⟨t', rfl⟩ := ry; exact PySem.W.ne_bytes (fin_bl I q (congrArg not dec_byt))
    | _ => exact absurd (show false = true from hs) Bool.false_ne_true
  | _ => cases y <;> exact absurd (show false = true from hs) Bool.false_ne_true

theorem op_lt : OpR X (compareOp .Lt) (rI0 fun i j => .bl (decide (i < j))) := opB0 fun _ _ _ _ _ _ _ q => lt_int q
theorem op_le : OpR X (compareOp .LtE) (rI0 fun i j => .bl (decide (i ≤ j))) := opB0 fun _ _ _ _ _ _ _ q => le_int q
theorem op_gt : OpR X (compareOp .Gt) (rI0 fun i j => .bl (decide (j < i))) := opB0 fun _ _ _ _ _ _ _ q => gt_int q
theorem op_ge : OpR X (compareOp .GtE) (rI0 fun i j => .bl (decide (j ≤ i))) := opB0 fun _ _ _ _ _ _ _ q => ge_int q

/-- is None, is not None: the right side a value none -/
theorem op_isN : OpR X (compareOp .Is) (fun x y H Q => y = .non ∧ Q (.bl (decide (x = .non))) H) := by
  intro pins s σ H x y v u Q I rx ry h
  obtain ⟨rfl, q⟩ := h
  cases ry
  refine is_none_gen (fin_bl I q ?_)
  cases x <;> first
    | (cases rx; rfl)
    | (obtain ⟨t, rfl⟩ := rx; rfl)
theorem op_notN : OpR X (compareOp .IsNot) (fun x y H Q => y = .non ∧ Q (.bl (!decide (x = .non))) H) := by
  intro pins s σ H x y v u Q I rx ry h
  obtain ⟨rfl, q⟩ := h
  cases ry
  refine isnot_none_gen (fin_bl I q ?_)
  cases x <;> first
    | (cases rx; rfl)
    | (obtain ⟨t, rfl⟩ := rx; rfl)

/-- is, is not of two objects that are tracked lists or instances -/
def isObj : HO → Bool
  | .lst _ => true
  | .ins _ _ _ => true
  | _ => false


theorem nomark (b : Expr) {op : CmpOp} (h : op ≠ .In := by decide) (h2 : op ≠ .NotIn := by decide) : behindInMarks op b = false := by
  have e1 : (op == CmpOp.In) = false := by cases op <;> first | rfl | exact absurd rfl h
  have e2 : (op == CmpOp.NotIn) = false := by cases op <;> first | rfl | exact absurd rfl h2
  cases b <;> simp [behindInMarks, e1, e2]
/-- a comparison as a value; hm: nomark b, or (for in, not in) by with_unfolding_all rfl -/
theorem pe_cmpR {op : CmpOp} {r : R2} (ho : OpR X (compareOp op) r) (ha : PE X a ta) (hb : PE X b tb) (hm : behindInMarks op b = false) : PE X (.Compare a [op] [b] pos) (tOp r ta tb) := by
  intro pins s σ H Q I h
  exact wpAny_Compare1 (binT ha hb I h fun v u s2 x y H2 I2 rx ry q => ho pins s2 σ H2 x y v u Q I2 rx ry q) hm
/-- a reading of a value as a test -/
def tTest (t : TE) : TT := fun σ H Q => t σ H fun x H' => ∃ k, x = .bl k ∧ Q k H'
theorem pt_cmpR {op : CmpOp} {r : R2} (ho : OpR X (compareOp op) r) (ha : PE X a ta) (hb : PE X b tb) (hm : behindInMarks op b = false) : PT X (.Compare a [op] [b] pos) (tTest (tOp r ta tb)) := by
  intro pins s σ H Q I h
  refine wpAny_isTrue_Compare1 (thn (ha pins s σ H _ I h) fun v s1 ⟨x, H1, I1, r1, q1⟩ => thn (hb pins s1 σ H1 _ I1 q1) fun u s2 ⟨y, H2, I2, r2, q2⟩ =>
    thn (ho pins s2 σ H2 x y v u _ I2 r1 r2 q2) fun c s3 ⟨z, H3, I3, r3, k, e, q3⟩ => ?_) hm
  subst e
  cases r3
  exact wpAny_truthy_bool ⟨H3, I3, q3⟩
/-- a op1 b op2 c -/
def tChain (r r' : R2) (ta tb tc : TE) : TE := fun σ H Q => ta σ H fun x H1 => tb σ H1 fun y H2 => r x y H2 fun z H3 => ∃ k, z = .bl k ∧
  (if k = true then tc σ H3 fun w' H4 => r' y w' H4 Q else Q (.bl false) H3)
theorem pe_chain {op op' : CmpOp} {r r' : R2} (ho : OpR X (compareOp op) r) (ho' : OpR X (compareOp op') r') (ha : PE X a ta) (hb : PE X b tb) (hc : PE X c tc)
    (hm : lastMarks [op, op'] [b, c] = false := by with_unfolding_all rfl) : PE X (.Compare a [op, op'] [b, c] pos) (tChain r r' ta tb tc) := by
  intro pins s σ H Q I h
  refine Compare_chain (thn (ha pins s σ H _ I h) fun v s1 ⟨x, H1, I1, r1, q1⟩ => chain_link (thn (hb pins s1 σ H1 _ I1 q1) fun u s2 ⟨y, H2, I2, r2, q2⟩ =>
    thn (ho pins s2 σ H2 x y v u _ I2 r1 r2 q2) fun d s3 ⟨z, H3, I3, r3, k, e, q3⟩ => ?_)) hm
  subst e
  cases r3
  refine wpAny_truthy_bool ?_
  cases k with
  | false => exact ite_ff ⟨.bl false, H3, I3, rfl, q3⟩
  | true => exact ite_tt (chain_last (thn (hc pins s3 σ H3 _ I3 q3) fun w' s4 ⟨z', H4, I4, r4, q4⟩ => ho' pins s4 σ H4 y z' u w' Q I4 r2 r4 q4))

/-! ### truth -/
/-- a value's truth by the abstract heap -/
def TruV (K : PySem.W.Frag) (x : V) (H : Hp) (k : Bool) : Prop :=
  match x with
  | .non => k = false
  | .bl b => k = b
  | .int i => k = (i != 0)
  | .str y => y.length ≤ sizeLine ∧ k = ((y.length : Int) != 0)
  | .byt y => y.size ≤ sizeLine ∧ k = ((y.size : Int) != 0)
  | .ref p => (∃ xs, SqL K H p xs ∧ k = !xs.isEmpty) ∨ (∃ xs, SqT K H p xs ∧ k = !xs.isEmpty) ∨ ∃ kvs, H p = some (.dK kvs) ∧ k = !kvs.isEmpty
  | _ => False
theorem isEmpty_kv {κ : Type} {kvs : List (κ × V)} {vs : List (κ × Value)} (r : KV kvs vs) : (!vs.isEmpty) = !kvs.isEmpty := by
  cases r <;> rfl
theorem isEmpty_of {xs : List V} {its : List Value} (r : Vals xs its) : (!its.toArray.isEmpty) = !xs.isEmpty := by
  cases r <;> simp
theorem line63 : (sizeLine : Nat) < 2 ^ 63 := by rw [sizeLine_eq]; decide
theorem tru_ok : TruR X (fun x H Q => ∃ k, TruV X.K x H k ∧ Q k H) := by
  intro pins s σ H x v Q I rx h
  obtain ⟨k, e, q⟩ := h
  have hl := line63
  have hs : sizeLine = 16777216 := sizeLine_eq
  cases x with
  | non =>
    cases rx
    have e' : k = false := e
    subst e'
    exact truthy_none ⟨H, I, q⟩
  | bl b =>
    cases rx
    have e' : k = b := e
    subst e'
    exact wpAny_truthy_bool ⟨H, I, q⟩
  | int i =>
    obtain ⟨t, rfl⟩ := rx
    have e' : k = (i != 0) := e
    subst e'
    exact PySem.P.truthy_int ⟨H, I, q⟩
  | str y =>
    obtain ⟨t, rfl⟩ := rx
    obtain ⟨hy, e'⟩ : y.length ≤ sizeLine ∧ k = ((y.length : Int) != 0) := e
    subst e'
    exact PySem.P.truthy_str (by omega) ⟨H, I.tok _, q⟩
  | byt y =>
    obtain ⟨t, rfl⟩ := rx
    obtain ⟨hy, e'⟩ : y.size ≤ sizeLine ∧ k = ((y.size : Int) != 0) := e
    subst e'
    exact PySem.W.truthy_bytes (by omega) ⟨H, I.tok _, q⟩
  | ref p =>
    cases rx
    have e' : (∃ xs, SqL X.K H p xs ∧ k = !xs.isEmpty) ∨ (∃ xs, SqT X.K H p xs ∧ k = !xs.isEmpty) ∨ ∃ kvs, H p = some (.dK kvs) ∧ k = !kvs.isEmpty := e
    rcases e' with ⟨xs, hx, e'⟩ | ⟨xs, hx, e'⟩ | ⟨kvs, hx, e'⟩
    · subst e'
      obtain ⟨its, r, pl, hz⟩ := I.list hx
      have hlen := r.length
      exact wpAny_truthy_list pl.isList (by simp only [List.size_toArray]; omega) ⟨H, I.tok _, by rw [isEmpty_of r]; exact q⟩
    · subst e'
      obtain ⟨its, r, pl, hz⟩ := I.tuple hx
      have hlen := r.length
      exact truthy_tuple pl (by simp only [List.size_toArray]; omega) ⟨H, I.tok _, by rw [isEmpty_of r]; exact q⟩
    · subst e'
      obtain ⟨hz, hS, vs, r, m⟩ : kvs.length ≤ sizeLine ∧ (p == sysModules) = false ∧ ∃ vs, KV kvs vs ∧ s.heap.DictOf (mixKind X.prog X.w) p vs := I.hok p _ hx
      have hlen : kvs.length = vs.length := Paired.length r
      exact wpAny_truthy_dict hS m (by omega) ⟨H, I.tok _, by rw [isEmpty_kv r]; exact q⟩
  | _ => exact (show False from e).elim
/-- any expression whose test is its value's truth (a name, a call, a subscript, a field ..: he by fun _ => rfl) -/
theorem pt_truth (ha : PE X a ta) (he : ∀ whole, isTrue a X.env whole = (do let v ← whole; standAt a.pos; holding [v] (truthy v))) :
    PT X a (fun σ H Q => ta σ H fun x H' => ∃ k, TruV X.K x H' k ∧ Q k H') := by
  intro pins s σ H Q I h
  exact isTrue_plain (thn (ha pins s σ H _ I h) fun v s1 ⟨x, H1, I1, r1, q1⟩ => tru_ok pins s1 σ H1 x v Q I1 r1 q1) (he _)

/-! ### strs and bytes -/

/-! ### scalar builtins, by CallR -/
theorem vals1 {x : V} {us : List Value} (r : Vals [x] us) : ∃ u, us = [u] ∧ RelV x u := by
  cases r with
  | cons r1 r2 => cases r2; exact ⟨_, rfl, r1⟩
end
end L2

namespace L2
open PySem PySem.Spec PyProof.Rows

/-! ### an instance, its attributes a map -/
structure ObjM (h : Heap) (x dx C : Addr) (mA : Str → Option Value) : Prop where
  obj : h.get? x = some (PySem.W.instObj C dx)
  ns : h.Ns1 dx mA
  ne : dx ≠ x

theorem lookIn_ns {h : Heap} {dx : Addr} {mA : Str → Option Value} (n : h.Ns1 dx mA) : ∃ od, h.get? dx = some od ∧ ∀ name, PySem.W.lookIn name od = some (mA name) := by
  obtain ⟨o, es, ep, ho, hd, hk, _, hm⟩ := n
  refine ⟨o, ho, fun name => ?_⟩
  have e := hm name
  unfold nsFind findBy at e
  rw [← Array.find?_toList] at e
  unfold PySem.W.lookIn
  rw [hd]
  dsimp only
  split
  · rename_i y q
    rw [q] at e
    exact congrArg some e
  · rename_i q
    rw [q] at e
    have a : es.toList.any (·.refKey) = false := by
      rw [List.any_eq_false]
      intro y hy
      obtain ⟨z, t, hkey⟩ := hk y (Array.mem_toList_iff.mp hy)
      simp [DictEntry.refKey, hkey]
    have a' : ¬ es.toList.any (·.refKey) = true := by rw [a]; exact Bool.false_ne_true
    rw [if_neg a']
    exact congrArg some e

theorem ObjM.look {h : Heap} {x dx C : Addr} {mA : Str → Option Value} (I : ObjM h x dx C mA) : ∃ od, PySem.W.InstAt h x (PySem.W.instObj C dx) C (some od) ∧ ∀ name, PySem.W.lookIn name od = some (mA name) :=
  let ⟨od, ho, hl⟩ := lookIn_ns I.ns
  ⟨od, ⟨I.obj, rfl, rfl, ho⟩, hl⟩

section
variable {prog : Program} {w : World} {A : Around} {E : Value → Shared → Prop} {s : Shared} {K : PySem.W.Frag} {x dx C f : Addr} {mA : Str → Option Value} {name : Str} {v : Value}

theorem get_map {expr : Bool} {Q : Value → Shared → Prop} (X : K.In s.heap) (I : ObjM s.heap x dx C mA) (hg : PySem.W.plainGet K C name = true) (hh : PySem.W.hasDictIn K C = true)
    (ha : PySem.W.findIn K (.ref C) name = some none) (hv : mA name = some v) (hv' : PySem.W.handedIn v = true) (h : Q v { s with toks := s.toks + 1 }) :
    wpAny (model prog w) A (getAttr (.ref x) name expr) Q E s := by
  obtain ⟨od, J, hl⟩ := I.look
  exact PySem.W.get_value X J (PySem.W.plainGet_of hg).1 (PySem.W.findObj_own hh ha rfl (by rw [hl, hv])) hv' h


theorem get_meth {pl : Sem Bool} {Q : Value × List Value → Shared → Prop} (X : K.In s.heap) (I : ObjM s.heap x dx C mA) (hg : PySem.W.plainGet K C name = true)
    (hf : PySem.W.findIn K (.ref C) name = some (some (.ref f))) (ht : PySem.W.isFn K (.ref f) = true) (hv : mA name = none) (h : Q (.ref f, [.ref x]) s) :
    wpAny (model prog w) A (getMethod (.ref x) name pl) Q E s := by
  obtain ⟨od, J, hl⟩ := I.look
  exact PySem.W.method_fn X J (PySem.W.plainGet_of hg).1 (PySem.W.plainGet_of hg).2 hf (beq_iff_eq.mp ht) (by show (PySem.W.lookIn name od).map (·.isSome) = some false; rw [hl, hv]; rfl) h

theorem set_map {ns : List Str} {Q : Unit → Shared → Prop} (X : K.In s.heap) (I : ObjM s.heap x dx C mA)
    (hs : PySem.W.findIn K (.ref C) "__setattr__" = some (some (.builtin "object.__setattr__"))) (hp : PySem.W.plainOver K C = true) (ht : PySem.W.takerIn K C name = some none) (hh : PySem.W.hasDictIn K C = true)
    (hw : PySem.Within mA ns) (hsz : ns.length ≤ sizeLine)
    (h : ∀ h', ObjM h' x dx C (fun y => if y = name then some v else mA y) → Heap.SameBut dx s.heap h' → Q () { s with heap := h', toks := s.toks + 2 }) :
    wpAny (model prog w) A (setAttr (.ref x) name v) Q E s := by
  obtain ⟨od, J, hl⟩ := I.look
  refine PySem.W.set_plain X J hs (PySem.W.osa_open (s := { s with toks := s.toks + 1 }) (r := none) X J hp ht fun b => ?_)
  obtain ⟨cd, hc, hd'⟩ := PySem.W.any_some hh
  have hx : s.heap.get? x = some ⟨.ref C, some dx, .plain, #[]⟩ := I.obj
  refine wpAny_bind (wpAny_pure (wpAny_bind (wpAny_bind (wpAny_loadPart hx (wpAny_bind (PySem.W.Looks.here (s := { s with toks := s.toks + 1 }) (PySem.W.looks_clsIn X hc) ?_))))))
  rw [hd']
  refine wpAny_pure (a := some dx) (wpAny_bind (wpAny_pure (wpAny_bind ?_)))
  refine wpAny_nsSet1 (s := { s with toks := s.toks + 1 }) I.ns fun h' hn2 hs2 => ?_
  obtain ⟨oD, esD, epD, hoD, hdD, hcD⟩ := hn2.count (PySem.Within.cons name v hw)
  refine wpAny_bind (wpAny_lookBehind hoD (by rw [hdD]; exact pastItsLine_dict (Nat.le_trans hcD (by rw [List.length_cons]; omega))) ?_)
  exact wpAny_pure (h _ ⟨(hs2.2 _ (Ne.symm I.ne)).trans I.obj, hn2, I.ne⟩ hs2)

/-- C(..): the dict at the heap's end, the instance behind it; then its __init__ -/
theorem make_map {R : Result → Shared → Prop} {vs : List Value} {kw : List (Str × Value)} (X : K.In s.heap) (hm : PySem.W.makesIn K C = true)
    (hi : PySem.W.findIn K (.ref C) "__init__" = some (some (.ref f))) (hf : PySem.W.typeIn K (.ref f) = some (.type "function"))
    (h : codeAny (model prog w) (A.under (.builtin "type.__call__" ⟨.ref C :: vs, kw⟩)) (.call (.ref f) ⟨.ref (s.heap.objs.size + 1) :: vs, kw⟩) (PySem.W.InitBack (s.heap.objs.size + 1) R)
      { s with heap := (s.heap.push PySem.W.emptyDict).push (PySem.W.instObj C s.heap.objs.size) }) :
    codeAny (model prog w) A (.call (.ref C) ⟨vs, kw⟩) R s := by
  obtain ⟨hh, g, d, t, os⟩ := s
  exact PySem.W.make_core (PySem.W.makes_of X hm) (PySem.W.looks_findIn X hi) (fun self => PySem.W.bind_fn X self hf) (.inl rfl) h
end

/-! ### the attributes as a list of pairs -/
def putF (f : Str) (v : V) : List (Str × V) → List (Str × V)
  | [] => [(f, v)]
  | (g, x) :: r => if g = f then (g, v) :: r else (g, x) :: putF f v r
theorem lookup_putF (f g : Str) (v : V) : ∀ fs : List (Str × V), (putF f v fs).lookup g = if g = f then some v else fs.lookup g
  | [] => by
    show List.lookup g [(f, v)] = _
    by_cases h : g = f
    · have hb : (g == f) = true := beq_iff_eq.mpr h
      simp only [List.lookup, hb, if_pos h]
    · have hb : (g == f) = false := beq_eq_false_iff_ne.mpr h
      simp only [List.lookup, hb, if_neg h]
  | (k, x) :: r => by
    have ih := lookup_putF f g v r
    rw [show putF f v ((k, x) :: r) = (if k = f then (k, v) :: r else (k, x) :: putF f v r) from rfl]
    by_cases hk : k = f
    · rw [if_pos hk]
      by_cases h : g = k
      · have hb : (g == k) = true := beq_iff_eq.mpr h
        simp only [List.lookup, hb, if_pos (h.trans hk)]
      · have hb : (g == k) = false := beq_eq_false_iff_ne.mpr h
        simp only [List.lookup, hb, if_neg (fun e : g = f => h (e.trans hk.symm))]
    · rw [if_neg hk]
      by_cases h : g = k
      · have hb : (g == k) = true := beq_iff_eq.mpr h
        simp only [List.lookup, hb, if_neg (fun e : g = f => hk (h.symm.trans e))]
      · have hb : (g == k) = false := beq_eq_false_iff_ne.mpr h
        simp only [List.lookup, hb]
        exact ih
theorem keys_putF (f : Str) (v : V) : ∀ fs : List (Str × V), f ∈ (putF f v fs).map (·.1) ∧ ∀ g, g ∈ fs.map (·.1) → g ∈ (putF f v fs).map (·.1)
  | [] => ⟨by simp [putF], fun g h => by simp at h⟩
  | (k, x) :: r => by
    obtain ⟨i1, i2⟩ := keys_putF f v r
    rw [show putF f v ((k, x) :: r) = (if k = f then (k, v) :: r else (k, x) :: putF f v r) from rfl]
    by_cases hk : k = f
    · rw [if_pos hk]
      subst hk
      exact ⟨by simp, fun g h => by simpa using h⟩
    · rw [if_neg hk]
      refine ⟨?_, fun g h => ?_⟩
      · rw [List.map_cons]
        exact List.mem_cons_of_mem _ i1
      · rw [List.map_cons] at h ⊢
        rcases List.mem_cons.mp h with e | e
        · exact List.mem_cons.mpr (.inl e)
        · exact List.mem_cons_of_mem _ (i2 g e)
theorem length_putF (f : Str) (v : V) : ∀ fs : List (Str × V), (putF f v fs).length ≤ fs.length + 1
  | [] => by simp [putF]
  | (k, x) :: r => by
    have ih := length_putF f v r
    rw [show putF f v ((k, x) :: r) = (if k = f then (k, v) :: r else (k, x) :: putF f v r) from rfl]
    by_cases hk : k = f
    · rw [if_pos hk, List.length_cons, List.length_cons]; omega
    · rw [if_neg hk, List.length_cons, List.length_cons]; omega

theorem RelO.some_of {v : V} {o : Option Value} (r : RelO (some v) o) : ∃ u, o = some u ∧ RelV v u := by
  cases o with
  | none => exact (show False from r).elim
  | some u => exact ⟨u, rfl, r⟩
theorem RelO.none_of {o : Option Value} (r : RelO none o) : o = none := by
  cases o with
  | none => rfl
  | some u => exact (show False from r).elim
theorem handed_of {v : V} {u : Value} (r : RelV v u) : PySem.W.handedIn u = true := by
  cases v with
  | non => cases (show u = Value.none from r); rfl
  | bl b => cases (show u = Value.bool b from r); rfl
  | int i => obtain ⟨t, e⟩ := (show ∃ t, u = Value.int i t from r); cases e; rfl
  | str x => obtain ⟨t, e⟩ := (show ∃ t, u = Value.str x t from r); cases e; rfl
  | byt b => obtain ⟨t, e⟩ := (show ∃ t, u = Value.bytes b t from r); cases e; rfl
  | flt b => obtain ⟨t, e⟩ := (show ∃ t, u = Value.float b t from r); cases e; rfl
  | ref a => cases (show u = Value.ref a from r); rfl
  | ty n => cases (show u = Value.type n from r); rfl

section
variable {P : Program} {w : World} {H H' : Hp} {h h' : Heap} {a C dx : Addr} {fs fs' : List (Str × V)}
theorem ins_get (hok : HOk P w H h) (e : H a = some (.ins C dx fs)) : ∃ mA, ObjM h a dx C mA ∧ (∀ f, RelO (fs.lookup f) (mA f)) ∧ PySem.Within mA (fs.map (·.1)) ∧ fs.length ≤ 1000 ∧ H dx = some (.own a) := by
  obtain ⟨d, z, ne, ob, mA, n, r, q⟩ := (show ObjOk P w H h a (.ins C dx fs) from hok a _ e)
  exact ⟨mA, ⟨ob, n, ne⟩, r, q, z, d⟩
end

/-! ### what of the text a class must have -/
structure Cls (K : PySem.W.Frag) (C : Addr) : Prop where
  pg : PySem.W.plainGet K C Str.empty = true
  hd : PySem.W.hasDictIn K C = true
  po : PySem.W.plainOver K C = true
  sa : PySem.W.findIn K (.ref C) "__setattr__" = some (some (.builtin "object.__setattr__"))
theorem Cls.get {K : PySem.W.Frag} {C : Addr} (c : Cls K C) (f : Str) : PySem.W.plainGet K C f = true := c.pg
/-- no class of it has the name -/
def NoAttr (K : PySem.W.Frag) (C : Addr) (f : Str) : Prop := PySem.W.findIn K (.ref C) f = some none
theorem NoAttr.taker {K : PySem.W.Frag} {C : Addr} {f : Str} (n : NoAttr K C f) : PySem.W.takerIn K C f = some none := by
  unfold PySem.W.takerIn
  rw [show PySem.W.findIn K (.ref C) f = some none from n]
  rfl
/-- a method: a plain def of the class or of one above it -/
structure Meth (K : PySem.W.Frag) (C : Addr) (m : Str) (f : Addr) : Prop where
  at_ : PySem.W.findIn K (.ref C) m = some (some (.ref f))
  fn : PySem.W.isFn K (.ref f) = true
  kp : PySem.W.keepIn K (.ref f) = true

section
variable {X : Cx} {pins : List (Addr × Obj)} {σ : St} {H : Hp} {s : Shared} {a C dx : Addr} {fs : List (Str × V)} {f : Str} {v : V} {A : Around} {E : Value → Shared → Prop}

theorem getattr_ok {b : Bool} {Q : Value → Shared → Prop} (I : Inv X pins σ H s) (e : H a = some (.ins C dx fs)) (c : Cls X.K C) (n : NoAttr X.K C f) (l : fs.lookup f = some v)
    (h : ∀ u s', Inv X pins σ H s' → RelV v u → Q u s') : wpAny (model X.prog X.w) A (getAttr (.ref a) f b) Q E s := by
  obtain ⟨mA, O, r, _, _, _⟩ := ins_get I.hok e
  obtain ⟨u, hu, ru⟩ := RelO.some_of (v := v) (o := mA f) (by rw [← l]; exact r f)
  exact get_map I.kIn O (c.get f) c.hd n hu (handed_of ru) (h u _ (I.tok _) ru)


theorem getmeth_ok {m : Str} {g : Addr} {pl : Sem Bool} {Q : Value × List Value → Shared → Prop} (I : Inv X pins σ H s) (e : H a = some (.ins C dx fs)) (c : Cls X.K C) (k : Meth X.K C m g) (l : fs.lookup m = none)
    (h : Q (.ref g, [.ref a]) s) : wpAny (model X.prog X.w) A (getMethod (.ref a) m pl) Q E s := by
  obtain ⟨mA, O, r, _, _, _⟩ := ins_get I.hok e
  have hn : mA m = none := RelO.none_of (by rw [← l]; exact r m)
  exact get_meth I.kIn O (c.get m) k.at_ k.fn hn h

theorem setattr_ok {y : V} {u : Value} {Q : Unit → Shared → Prop} (I : Inv X pins σ H s) (e : H a = some (.ins C dx fs)) (c : Cls X.K C) (n : NoAttr X.K C f) (hl : fs.length < 1000) (ry : RelV y u)
    (h : ∀ s', Inv X pins σ (upd H a (.ins C dx (putF f y fs))) s' → Q () s') : wpAny (model X.prog X.w) A (setAttr (.ref a) f u) Q E s := by
  obtain ⟨mA, O, r, wi, _, ho⟩ := ins_get I.hok e
  have hz : (fs.map (·.1)).length ≤ sizeLine := by rw [List.length_map, sizeLine_eq]; omega
  refine set_map I.kIn O c.sa c.po n.taker c.hd wi hz fun h' O' sb => h _ ?_
  have hd : ∃ o, h'.get? dx = some o := let ⟨o, _, _, e', _⟩ := O'.ns; ⟨o, e'⟩
  refine I.write (x := a) (e := dx) (by rw [e]; exact True.intro) (.inr ho) (fun b q hb z => (sb.2 b hb).trans z) hd ?_
  refine ⟨by rw [upd_ne O.ne]; exact ho, ?_, O.ne, O'.obj, _, O'.ns, fun g => ?_, fun g hg => ?_⟩
  · have := length_putF f y fs; omega
  · show RelO ((putF f y fs).lookup g) (if g = f then some u else mA g)
    rw [lookup_putF]
    by_cases q : g = f
    · rw [if_pos q, if_pos q]; exact ry
    · rw [if_neg q, if_neg q]; exact r g
  · by_cases q : g = f
    · rw [q]; exact (keys_putF f y fs).1
    · refine (keys_putF f y fs).2 g (wi g fun z => hg ?_)
      show (if g = f then some u else mA g) = none
      rw [if_neg q]; exact z

/-- a new instance, tracked, without attributes -/
theorem Inv.made (I : Inv X pins σ H s) : Inv X pins σ (upd (upd H s.heap.objs.size (.own (s.heap.objs.size + 1))) (s.heap.objs.size + 1) (.ins C s.heap.objs.size []))
    { s with heap := (s.heap.push PySem.W.emptyDict).push (PySem.W.instObj C s.heap.objs.size) } := by
  have e1 : (s.heap.push PySem.W.emptyDict).get? s.heap.objs.size = some PySem.W.emptyDict := Heap.get?_push_size s.heap rfl
  have e2 : ((s.heap.push PySem.W.emptyDict).push (PySem.W.instObj C s.heap.objs.size)).get? (s.heap.objs.size + 1) = some (PySem.W.instObj C s.heap.objs.size) := by
    have := Heap.get?_push_size (s.heap.push PySem.W.emptyDict) (o := PySem.W.instObj C s.heap.objs.size) rfl
    rwa [Heap.size_push] at this
  have e3 : (s.heap.push PySem.W.emptyDict).Ns s.heap.objs.size (fun _ => none) := ⟨PySem.W.emptyDict, #[], _, e1, rfl, (fun e he => absurd he (by simp)), fun _ => rfl⟩
  have I1 := I.laid (a := s.heap.objs.size) (o := .own (s.heap.objs.size + 1)) (h' := s.heap.push PySem.W.emptyDict) (t' := s.toks) (fun b u q => Heap.get?_push_of_some _ q) (Nat.le_refl _) ⟨_, e1⟩
  refine I1.laid (a := s.heap.objs.size + 1) (o := .ins C s.heap.objs.size []) (t' := s.toks) (fun b u q => Heap.get?_push_of_some _ q) (Nat.le_of_eq (Heap.size_push _ _)) ?_
  have ne : s.heap.objs.size ≠ s.heap.objs.size + 1 := Nat.ne_of_lt (Nat.lt_succ_self _)
  refine ⟨by rw [upd_ne ne, upd_same], Nat.zero_le _, ne, e2, fun _ => none, (Heap.Ns1.of_empty e3).at fun o q => Heap.get?_push_of_some _ q, fun _ => True.intro, fun y hy => absurd rfl hy⟩

/-- e.f where nothing but the object is asked: through attributeBase (super) and the last hold -/
theorem attr_of {prog : Program} {w : World} {env : Env} {e : Expr} {f : Str} {pos : Pos} {s : Shared} {Q : Value → Shared → Prop} (hb : attributeBase e f env (eval e env) = eval e env)
    (h : wpAny (model prog w) A (eval e env) (fun o s₁ => wpAny (model prog w) A (getAttr o f true) Q E s₁) E s) : wpAny (model prog w) A (eval (.Attribute e f pos) env) Q E s :=
  Attribute_any_ h (by rw [arm_eval_Attribute, hb])
end

/-! ### readings and rules -/
/-- e.f, an attribute of the instance -/
def tFld (K : PySem.W.Frag) (ta : TE) (f : Str) : TE := fun σ H Q => ta σ H fun x H1 => ∃ a C dx fs v, x = .ref a ∧ H1 a = some (.ins C dx fs) ∧ Cls K C ∧ NoAttr K C f ∧ fs.lookup f = some v ∧ Q v H1
/-- e.f = value -/
def sFld (K : PySem.W.Frag) (ta tv : TE) (f : Str) : TS := fun D σ H => tv σ H fun y H1 => ta σ H1 fun x H2 => ∃ a C dx fs, x = .ref a ∧ H2 a = some (.ins C dx fs) ∧ Cls K C ∧ NoAttr K C f ∧ fs.length < 1000 ∧
  D.nx σ (upd H2 a (.ins C dx (putF f y fs)))

section
variable {X : Cx} {o e value : Expr} {f : Str} {pos pos' tpos : Pos} {ta tv : TE}
theorem pe_fld (he : PE X e ta) (hb : attributeBase e f X.env (eval e X.env) = eval e X.env) : PE X (.Attribute e f pos) (tFld X.K ta f) := by
  intro pins s σ H Q I h
  refine attr_of hb (thn (he pins s σ H _ I h) fun u s1 ⟨x, H1, I1, rx, a, C, dx, fs, v, ex, ea, c, n, l, q⟩ => ?_)
  subst ex
  obtain rfl : u = Value.ref a := rx
  exact getattr_ok I1 ea c n l fun u' s2 I2 ru => ⟨v, H1, I2, ru, q⟩
theorem ps_fld (ha : PE X o ta) (hv : PE X value tv) (hs : swapsWith value (some (.Attribute o f pos')) pos.line X.env = pure false) : PS X (.Assign [.Attribute o f pos'] value pos) (sFld X.K ta tv f) := by
  intro pins s σ H D I h
  refine plainObj_wpAny_Assign_Attribute (thn (hv pins s σ H _ I h) fun u s1 ⟨y, H1, I1, ry, q⟩ => thn (ha pins s1 σ H1 _ I1 q) fun ov s2 ⟨x, H2, I2, rx, a, C, dx, fs, ex, ea, c, n, l, q2⟩ => ?_) hs
  subst ex
  obtain rfl : ov = Value.ref a := rx
  exact setattr_ok I2 ea c n l ry fun s3 I3 => ⟨σ, _, I3, q2⟩

/-- what is between an instance and its method: the tree of a method call -/
theorem methcall_of {pl : Sem Bool} {m : Str} {apos : Pos} {args : List Expr} {pins : List (Addr × Obj)} {s : Shared} {σ : St} {H : Hp} {Q : Value → Shared → Prop} {te : TE} (he : PE X e te) (I : Inv X pins σ H s)
    (h : te σ H fun x H1 => ∃ a C dx fs g, x = .ref a ∧ H1 a = some (.ins C dx fs) ∧ Cls X.K C ∧ Meth X.K C m g ∧ fs.lookup m = none ∧
      ∀ s1, Inv X pins σ H1 s1 → wpAny (model X.prog X.w) X.A (callWith pos (.ref g) [.ref a] (backTo pos (starEach args X.env)) (backToKw pos (keywordEach [] X.env))) Q X.xe s1)
    (ht : eval (.Call (.Attribute e m apos) args [] pos) X.env = (do
      let ov ← eval e X.env
      standAt apos.atName
      let (f, first) ← holding [ov] (getMethod ov m pl)
      callWith pos f first (backTo pos (starEach args X.env)) (backToKw pos (keywordEach [] X.env)))) :
    wpAny (model X.prog X.w) X.A (eval (.Call (.Attribute e m apos) args [] pos) X.env) Q X.xe s := by
  refine PySem.W.methodCall_KW (pl := pl) (thn (he pins s σ H _ I h) fun u s1 ⟨x, H1, I1, rx, a, C, dx, fs, g, ex, ea, c, k, l, q⟩ => ?_) ht
  subst ex
  obtain rfl : u = Value.ref a := rx
  exact getmeth_ok I1 ea c k l (q s1 I1)
end

/-! ### isinstance -/
section
variable {X : Cx} {pins : List (Addr × Obj)} {σ : St} {H : Hp} {s : Shared} {A : Around} {E : Value → Shared → Prop} {Q : Value → Shared → Prop} {c : Value} {b : Bool}
/-- the type of a value, as the fragment's deciders take it; for an instance its class -/
inductive TyOf (K : PySem.W.Frag) (H : Hp) : V → Value → Prop where
  | non : TyOf K H .non (.type "NoneType")
  | bl (x : Bool) : TyOf K H (.bl x) (.type "bool")
  | int (i : Int) : TyOf K H (.int i) (.type "int")
  | str (x : Str) : TyOf K H (.str x) (.type "str")
  | flt (x : UInt64) : TyOf K H (.flt x) (.type "float")
  | lst {a : Addr} {xs : List V} (e : H a = some (.lst xs)) : TyOf K H (.ref a) (.type "list")
  | frz {a : Addr} {o : Obj} {xs : List V} (e : H a = some (.frz o (.lst xs))) : TyOf K H (.ref a) (.type "list")
  | tup {a : Addr} {xs : List V} (e : H a = some (.tup xs)) : TyOf K H (.ref a) (.type "tuple")
  | dK {a : Addr} {kvs : List (Key × V)} (e : H a = some (.dK kvs)) : TyOf K H (.ref a) (.type "dict")
  | dT {a : Addr} {kvs : List (List Key × V)} (e : H a = some (.dT kvs)) : TyOf K H (.ref a) (.type "dict")
  | ins {a C dx : Addr} {fs : List (Str × V)} (e : H a = some (.ins C dx fs)) (cl : Cls K C) (ha : PySem.W.findIn K (.ref C) "__class__" = some (some (.builtin "object.__class__")))
      (hn : PySem.W.specialIn K (.builtin "object.__class__") "__get__" = some (some (.builtin "getset_descriptor.__get__"))) (htk : PySem.W.takesIn K (.builtin "object.__class__") = some true)
      (hm : PySem.W.mroIn K C (.type "object") = some true) : TyOf K H (.ref a) (.ref C)
end
end L2

namespace L2
open PySem PySem.Spec PyProof.Rows

/-! ### room -/
structure Room (k : Nat) (A : Around) : Prop where
  hd : A.handled = none
  dp : A.depth + 3 * k + 5 < recursionLimit
  un : A.units + 16 * k + 200 < cLine
theorem Room.mono {j k : Nat} {A : Around} (r : Room k A) (h : j ≤ k) : Room j A := ⟨r.hd, by have := r.dp; omega, by have := r.un; omega⟩
theorem Room.deeper {k : Nat} {A : Around} (r : Room (k + 1) A) (env : Env) : Room k (A.deeper env) :=
  ⟨r.hd, by have := r.dp; show A.depth + 1 + 3 * k + 5 < _; omega, by have := r.un; show A.units + 3 + 16 * k + 200 < _; omega⟩
theorem make_depth {A : Around} {C : Addr} {us : List Value} {kw : List (Str × Value)} : (A.under (.builtin "type.__call__" ⟨.ref C :: us, kw⟩)).depth = A.depth + 1 := by
  first | rfl | simp [Around.under, Code.weight, Code.isCreation, Code.isGuard, Code.isCaller, Code.frames, Code.isFrame, guardIds]
theorem make_units {A : Around} {C : Addr} {us : List Value} {kw : List (Str × Value)} : (A.under (.builtin "type.__call__" ⟨.ref C :: us, kw⟩)).units = A.units + 1 := by
  first | rfl | simp [Around.under, Code.cUnits, Code.frames, Code.isFrame]
theorem Room.make {k : Nat} {A : Around} (r : Room (k + 1) A) (C : Addr) (us : List Value) (kw : List (Str × Value)) : Room k (A.under (.builtin "type.__call__" ⟨.ref C :: us, kw⟩)) :=
  ⟨r.hd, by have := r.dp; rw [make_depth]; omega, by have := r.un; rw [make_units]; omega⟩
theorem Room.depth {k : Nat} {A : Around} (r : Room k A) : A.depth < recursionLimit := by have := r.dp; omega

/-! ### argument lists and displays -/
def tNil : TA := fun _ H Q => Q [] H
def tCons (ta : TE) (tr : TA) : TA := fun σ H Q => ta σ H fun x H1 => tr σ H1 fun xs H2 => Q (x :: xs) H2
section
variable {X : Cx} {e : Expr} {es : List Expr} {te : TE} {t : TA} {pos : Pos}
theorem pa_nil : PA X [] tNil := fun _ _ _ _ H Q I h => Calls.spliced_nil ⟨[], H, I, .nil, h⟩
theorem pa_cons (ha : PE X e te) (hr : PA X es t) (hs : starEach (e :: es) X.env = (false, eval e X.env) :: starEach es X.env := by rfl) : PA X (e :: es) (tCons te t) := by
  intro pos pins s σ H Q I h
  rw [hs]
  show wpAny _ _ (spliced ((false, eval e X.env) :: backTo pos (starEach es X.env))) _ _ s
  refine Calls.spliced_cons (thn (ha pins s σ H _ I h) fun u s1 ⟨x, H1, I1, r1, q1⟩ => ?_)
  exact thn (hr pos pins s1 σ H1 _ I1 q1) fun us s2 ⟨xs, H2, I2, r2, q2⟩ => ⟨x :: xs, H2, I2, .cons r1 r2, q2⟩

def tLst (t : TA) : TE := fun σ H Q => t σ H fun xs H1 => xs.length ≤ sizeLine ∧ ∀ p, H1 p = none → Q (.ref p) (upd H1 p (.lst xs))
theorem pe_lst (h : PA X es t) : PE X (.List es pos) (tLst t) := by
  intro pins s σ H Q I hq
  refine wpAny_List_spliced (thn (h pos pins s σ H _ I hq) fun us s1 ⟨xs, H1, I1, r, z, q⟩ => ⟨by rw [← r.length]; exact z, ?_⟩)
  have hf : H1 s1.heap.objs.size = none := I1.hok.fresh (Nat.le_refl _)
  refine ⟨.ref s1.heap.objs.size, upd H1 s1.heap.objs.size (.lst xs), I1.laid (t' := s1.toks) (fun b u e => Heap.get?_push_of_some _ e) (Nat.le_refl _) ?_, rfl, q _ hf⟩
  exact ⟨z, us, 0, r, Heap.get?_push_size _ rfl⟩
end

/-! ### what a def promises -/
/-- a def's promise: the bound arguments in the parameters' order, the heap, the wanted end, the wanted exception -/
abbrev Sp := List V → Hp → VK → XK → Prop
/-- how an exception lies behind a call (file 08 gives it): the callers' frames, abstract heap and state ahead of the call, the wish, the exception, the state -/
abbrev CXT := List Env → Hp → Shared → XK → Value → Shared → Prop

/-- the state at a call -/
structure Env0 (P : Program) (w : World) (K : PySem.W.Frag) (mg : Str → Option Value) (base : Heap) (A : Around) (outer : List Env) (s : Shared) (H : Hp) : Prop where
  frames : A.frames = some outer
  mod : Mod K mg base
  bs : ∀ b o, base.get? b = some o → s.heap.get? b = some o ∧ H b = none
  bsz : base.objs.size ≤ s.heap.objs.size
  funs : s.heap.FunFrames base outer
  frf : ∀ b ∈ frs outer, H b = none
  hok : HOk P w H s.heap
  bare : AllBare s.gens
/-- a call's end -/
def CE (outer : List Env) (P : Program) (w : World) (H : Hp) (s : Shared) (Q : VK) (u : Value) (s' : Shared) : Prop :=
  ∃ v H', s'.os = s.os ∧ AllBare s'.gens ∧ Un (frs outer) [] H H' s.heap s'.heap ∧ HOk P w H' s'.heap ∧ RelV v u ∧ Q v H'
def CR (CX : CXT) (outer : List Env) (P : Program) (w : World) (H : Hp) (s : Shared) (Q : VK) (E : XK) (r : Result) (s' : Shared) : Prop :=
  match r with
  | .ok (.ret u) => CE outer P w H s Q u s'
  | .ok _ => False
  | .error e => CX outer H s E e s'
structure FnOk (P : Program) (w : World) (K : PySem.W.Frag) (mg : Str → Option Value) (base : Heap) (CX : CXT) (k : Nat) (f : Addr) (fd : FuncData) (ps : List Str) (sp : Sp) : Prop where
  len : ∀ vs H Q E, sp vs H Q E → vs.length = ps.length
  run : ∀ (A : Around) (outer : List Env) (s : Shared) (H : Hp) (args : Args) (us : List Value) (vs : List V) (Q : VK) (E : XK), Room k A → Env0 P w K mg base A outer s H → BindsTo s fd args (ps.zip us) → Vals vs us → sp vs H Q E →
    codeAny (model P w) A (.call (.ref f) args) (CR CX outer P w H s Q E) s

theorem Env0.make {P : Program} {w : World} {K : PySem.W.Frag} {mg : Str → Option Value} {base : Heap} {A : Around} {outer : List Env} {s : Shared} {H : Hp} (e : Env0 P w K mg base A outer s H) (C : Addr) (us : List Value) (kw : List (Str × Value)) :
    Env0 P w K mg base (A.under (.builtin "type.__call__" ⟨.ref C :: us, kw⟩)) outer s H := ⟨by first | exact e.frames | (simpa [Around.under, Code.envs, Code.isFrame, pushEnvs] using e.frames), e.mod, e.bs, e.bsz, e.funs, e.frf, e.hok, e.bare⟩

section
variable {X : Cx} {pins : List (Addr × Obj)} {σ : St} {H : Hp} {s s' : Shared}
/-- from a body: what a callee wants -/
theorem Inv.env0 (I : Inv X pins σ H s) : Env0 X.prog X.w X.K X.mg X.base X.A X.stack s H :=
  ⟨I.ok.frames, I.ok.mod, I.bs, Nat.le_trans I.ok.bsz I.sz, I.stack, I.stkFree, I.hok, I.bare⟩
/-- behind a call -/
theorem Inv.after {Q : VK} {u : Value} (I : Inv X pins σ H s) (h : CE X.stack X.prog X.w H s Q u s') : EP X pins σ Q u s' := by
  obtain ⟨v, H', os, bare, un, hok, r, q⟩ := h
  obtain ⟨hh, g, d, t, os'⟩ := s'
  obtain rfl : os' = s.os := os
  exact ⟨v, H', I.call (h' := hh) (g' := g) (d' := d) (t' := t) (ch := []) un hok bare (fun b z => absurd z (by simp)), r, q⟩
end

/-! ### calls -/
/-- f(..): the written arguments, then the defaults dvs; E: what is wanted of an exception -/
def tCall (sp : Sp) (dvs : List V) (E : XK) (t : TA) : TE := fun σ H Q => t σ H fun vs H1 => sp (vs ++ dvs) H1 Q E
/-- o.m(..) of an instance of the class at C -/
def tMeth (C : Addr) (m : Str) (sp : Sp) (dvs : List V) (E : XK) (ta : TE) (t : TA) : TE := fun σ H Q => ta σ H fun x H1 => ∃ a dx fs, x = .ref a ∧ H1 a = some (.ins C dx fs) ∧ fs.lookup m = none ∧
  t σ H1 fun vs H2 => sp (x :: (vs ++ dvs)) H2 Q E
/-- C(..): a new instance and its dict, then __init__ -/
def tMake (C : Addr) (sp : Sp) (dvs : List V) (E : XK) (t : TA) : TE := fun σ H Q => t σ H fun vs H1 => ∀ x dx, H1 x = none → H1 dx = none → dx ≠ x →
  sp (.ref x :: (vs ++ dvs)) (upd (upd H1 dx (.own x)) x (.ins C dx [])) (fun v H2 => v = .non ∧ Q (.ref x) H2) E

/-- how the parameters are bound: us the positional arguments, kw the keywords' values by name, ds the defaults that fill up -/
def Binds (K : PySem.W.Frag) (fd : FuncData) (ps : List Str) (ds : List Value) : Prop :=
  ∀ (s : Shared) (us : List Value), K.In s.heap → (us ++ ds).length = ps.length → BindsTo s fd ⟨us, []⟩ (ps.zip (us ++ ds))
/-- every parameter is given -/
theorem Binds.all {K : PySem.W.Frag} {fd : FuncData} {ps : List Str} (h : ∀ us : List Value, us.length = ps.length → bindArgs fd ⟨us, []⟩ = pure (ps.zip us)) : Binds K fd ps [] := fun s us _ hl => by
  rw [List.append_nil] at hl ⊢
  exact .of_eq (h us hl)

/-- an exception of a callee reaches what this body wants of exceptions -/
def Passes (CX : CXT) (X : Cx) (E : XK) : Prop := ∀ (pins : List (Addr × Obj)) (σ : St) (H : Hp) (s : Shared) (e : Value) (s' : Shared), Inv X pins σ H s → CX X.stack H s E e s' → X.xe e s'

section
variable {X : Cx} {CX : CXT} {k : Nat} {f C : Addr} {fd : FuncData} {ps : List Str} {sp : Sp} {dvs : List V} {ds : List Value} {E : XK} {x m : Str} {p pos apos : Pos} {e o : Expr} {es : List Expr} {ta : TE} {t : TA}

/-- the callee runs -/
theorem run_fn {pins : List (Addr × Obj)} {σ : St} {H : Hp} {s : Shared} {Q : VK} {us : List Value} {vs : List V} (F : FnOk X.prog X.w X.K X.mg X.base CX k f fd ps sp) (hr : Room k X.A) (hb : Binds X.K fd ps ds) (hd : Vals dvs ds) (hx : Passes CX X E)
    (I : Inv X pins σ H s) (r : Vals vs us) (h : sp (vs ++ dvs) H Q E) : wpAny (model X.prog X.w) X.A (call (.ref f) us) (EP X pins σ Q) X.xe s := by
  have r2 : Vals (vs ++ dvs) (us ++ ds) := r.append hd
  have hl : (us ++ ds).length = ps.length := by rw [← r2.length]; exact F.len _ _ _ _ h
  refine wpAny_call (codeAny_mono (F.run X.A X.stack s H ⟨us, []⟩ (us ++ ds) (vs ++ dvs) Q E hr I.env0 (hb s us I.kIn hl) r2 h) fun r s' hq => ?_)
  cases r with
  | error e => exact hx pins σ H s e s' I hq
  | ok fl =>
    cases fl with
    | ret u => exact I.after hq
    | next => exact False.elim hq
    | brk => exact False.elim hq
    | cont => exact False.elim hq

theorem pe_call (F : FnOk X.prog X.w X.K X.mg X.base CX k f fd ps sp) (hr : Room k X.A) (hg : Gl X x) (hm : X.mg x = some (.ref f)) (hk : PySem.W.keepIn X.K (.ref f) = true) (hb : Binds X.K fd ps ds) (hd : Vals dvs ds) (hx : Passes CX X E)
    (ha : PA X (e :: es) t) (hdb : (x == ("__debug__" : Str)) = false := by decide) (he : starEach (e :: es) X.env = (false, eval e X.env) :: starEach es X.env := by rfl) (hpl : (backTo pos (starEach es X.env)).any (·.1) = false := by rfl) :
    PE X (.Call (.Name x p) (e :: es) [] pos) (tCall sp dvs E t) := by
  intro pins s σ H Q I h
  refine wpAny_Call_Name_kw (ld_glob I hg hm ?_ hdb)
  refine PySem.W.callWith_K (h₀ := X.base) I.ok.mod.kin hk (thn (ha pos pins s σ H _ I h) fun us s1 ⟨vs, H1, I1, r, q⟩ => ⟨I1.kIn, ?_⟩) he hpl
  exact run_fn F hr hb hd hx I1 r q

/-- o.m(e, ..) -/
theorem pe_meth {pl : Sem Bool} (he : PE X o ta) (c : Cls X.K C) (hm : Meth X.K C m f) (F : FnOk X.prog X.w X.K X.mg X.base CX k f fd ps sp) (hr : Room k X.A) (hb : Binds X.K fd ps ds) (hd : Vals dvs ds) (hx : Passes CX X E) (ha : PA X (e :: es) t)
    (hst : starEach (e :: es) X.env = (false, eval e X.env) :: starEach es X.env := by rfl) (hpl : (backTo pos (starEach es X.env)).any (·.1) = false := by rfl)
    (ht : eval (.Call (.Attribute o m apos) (e :: es) [] pos) X.env = (do
      let ov ← eval o X.env
      standAt apos.atName
      let (f, first) ← holding [ov] (getMethod ov m pl)
      callWith pos f first (backTo pos (starEach (e :: es) X.env)) (backToKw pos (keywordEach [] X.env))) := by rfl) :
    PE X (.Call (.Attribute o m apos) (e :: es) [] pos) (tMeth C m sp dvs E ta t) := by
  intro pins s σ H Q I h
  refine PySem.W.methodCall_KW (pl := pl) (thn (he pins s σ H _ I h) fun u s1 ⟨x, H1, I1, rx, a, dx, fs, ex, ea, l, q⟩ => ?_) ht
  subst ex
  obtain rfl : u = Value.ref a := rx
  refine getmeth_ok I1 ea c hm l ?_
  refine PySem.W.callWith_K (first := [.ref a]) (h₀ := X.base) I.ok.mod.kin hm.kp (thn (ha pos pins s1 σ H1 _ I1 q) fun us s2 ⟨vs, H2, I2, r, q2⟩ => ⟨I2.kIn, ?_⟩) hst hpl
  exact run_fn (us := .ref a :: us) (vs := .ref a :: vs) F hr hb hd hx I2 (.cons rfl r) q2
/-- o.m() -/
theorem pe_meth0 {pl : Sem Bool} (he : PE X o ta) (c : Cls X.K C) (hm : Meth X.K C m f) (F : FnOk X.prog X.w X.K X.mg X.base CX k f fd ps sp) (hr : Room k X.A) (hb : Binds X.K fd ps ds) (hd : Vals dvs ds) (hx : Passes CX X E)
    (ht : eval (.Call (.Attribute o m apos) [] [] pos) X.env = (do
      let ov ← eval o X.env
      standAt apos.atName
      let (f, first) ← holding [ov] (getMethod ov m pl)
      callWith pos f first (backTo pos (starEach [] X.env)) (backToKw pos (keywordEach [] X.env))) := by rfl) :
    PE X (.Call (.Attribute o m apos) [] [] pos) (tMeth C m sp dvs E ta tNil) := by
  intro pins s σ H Q I h
  refine PySem.W.methodCall_KW (pl := pl) (thn (he pins s σ H _ I h) fun u s1 ⟨x, H1, I1, rx, a, dx, fs, ex, ea, l, q⟩ => ?_) ht
  subst ex
  obtain rfl : u = Value.ref a := rx
  refine getmeth_ok I1 ea c hm l ?_
  exact PySem.W.callWith_K0 (first := [.ref a]) I1.kIn hm.kp (run_fn (us := [.ref a]) (vs := [.ref a]) F hr hb hd hx I1 (.cons rfl .nil) q)

/-- what a class must have to be made -/
structure Mk (K : PySem.W.Frag) (C f : Addr) : Prop where
  makes : PySem.W.makesIn K C = true
  init : PySem.W.findIn K (.ref C) "__init__" = some (some (.ref f))
  fn : PySem.W.isFn K (.ref f) = true
  kp : PySem.W.keepIn K (.ref C) = true

theorem run_make {pins : List (Addr × Obj)} {σ : St} {H : Hp} {s : Shared} {Q : VK} {us : List Value} {vs : List V} (M : Mk X.K C f) (F : FnOk X.prog X.w X.K X.mg X.base CX k f fd ps sp) (hr : Room (k + 1) X.A) (hb : Binds X.K fd ps ds) (hd : Vals dvs ds)
    (hx : Passes CX X E) (I : Inv X pins σ H s) (r : Vals vs us)
    (h : ∀ x dx, H x = none → H dx = none → dx ≠ x → sp (.ref x :: (vs ++ dvs)) (upd (upd H dx (.own x)) x (.ins C dx [])) (fun v H2 => v = .non ∧ Q (.ref x) H2) E) :
    wpAny (model X.prog X.w) X.A (call (.ref C) us) (EP X pins σ Q) X.xe s := by
  have hq := h (s.heap.objs.size + 1) s.heap.objs.size (I.hok.fresh (Nat.le_succ _)) (I.hok.fresh (Nat.le_refl _)) (Nat.ne_of_lt (Nat.lt_succ_self _))
  have I2 := Inv.made (C := C) I
  have r2 : Vals (V.ref (s.heap.objs.size + 1) :: (vs ++ dvs)) (Value.ref (s.heap.objs.size + 1) :: (us ++ ds)) := .cons rfl (r.append hd)
  have hl : (Value.ref (s.heap.objs.size + 1) :: us ++ ds).length = ps.length := by
    have e := r2.length
    rw [F.len _ _ _ _ hq] at e
    exact e.symm
  refine wpAny_call (make_map (f := f) I.kIn M.makes M.init (beq_iff_eq.mp M.fn) (codeAny_mono (F.run _ X.stack _ _ ⟨Value.ref (s.heap.objs.size + 1) :: us, []⟩ (Value.ref (s.heap.objs.size + 1) :: (us ++ ds)) _ _ E (hr.make C us [])
    (I2.env0.make C us []) (hb _ (Value.ref (s.heap.objs.size + 1) :: us) I2.kIn hl) r2 hq) fun r s' hq' => ?_))
  cases r with
  | error e => exact hx pins σ _ _ e s' I2 hq'
  | ok fl =>
    cases fl with
    | ret u =>
      obtain ⟨v, H', I3, rv, ev, q3⟩ := I2.after hq'
      subst ev
      exact ⟨rv, ⟨V.ref (s.heap.objs.size + 1), H', I3, rfl, q3⟩⟩
    | next => exact False.elim hq'
    | brk => exact False.elim hq'
    | cont => exact False.elim hq'
theorem pe_make (M : Mk X.K C f) (F : FnOk X.prog X.w X.K X.mg X.base CX k f fd ps sp) (hr : Room (k + 1) X.A) (hg : Gl X x) (hm : X.mg x = some (.ref C)) (hb : Binds X.K fd ps ds) (hd : Vals dvs ds) (hx : Passes CX X E)
    (ha : PA X (e :: es) t) (hdb : (x == ("__debug__" : Str)) = false := by decide) (he : starEach (e :: es) X.env = (false, eval e X.env) :: starEach es X.env := by rfl) (hpl : (backTo pos (starEach es X.env)).any (·.1) = false := by rfl) :
    PE X (.Call (.Name x p) (e :: es) [] pos) (tMake C sp dvs E t) := by
  intro pins s σ H Q I h
  refine wpAny_Call_Name_kw (ld_glob I hg hm ?_ hdb)
  refine PySem.W.callWith_K (h₀ := X.base) I.ok.mod.kin M.kp (thn (ha pos pins s σ H _ I h) fun us s1 ⟨vs, H1, I1, r, q⟩ => ⟨I1.kIn, ?_⟩) he hpl
  exact run_make M F hr hb hd hx I1 r q
theorem pe_make0 (M : Mk X.K C f) (F : FnOk X.prog X.w X.K X.mg X.base CX k f fd ps sp) (hr : Room (k + 1) X.A) (hg : Gl X x) (hm : X.mg x = some (.ref C)) (hb : Binds X.K fd ps ds) (hd : Vals dvs ds) (hx : Passes CX X E)
    (hdb : (x == ("__debug__" : Str)) = false := by decide) : PE X (.Call (.Name x p) [] [] pos) (tMake C sp dvs E tNil) := by
  intro pins s σ H Q I h
  refine wpAny_Call_Name_kw (ld_glob I hg hm ?_ hdb)
  exact PySem.W.callWith_K0 I.kIn M.kp (run_make (us := []) M F hr hb hd hx I .nil h)
end

/-! ### keywords -/
section
variable {X : Cx} {CX : CXT} {k : Nat} {f C : Addr} {fd : FuncData} {ps ks : List Str} {sp : Sp} {E : XK} {x m : Str} {p pos apos kpos : Pos} {e o : Expr} {es : List Expr} {kws : List Keyword} {te ta : TE} {t tk : TA} {nm : Option Str}

variable {g : List Value → List Value → List Value} {gV : List V → List V → List V}
end

/-! ### a def's body keeps its promise -/
/-- names: the parameters first -/
structure FnScope (N P : List Str) (sc : Scope) : Prop where
  kind : sc.kind = .function
  co : sc.isCoroutine = false
  gen : sc.isGenerator = false
  nd : N.Nodup
  pre : N.take P.length = P
  par : ∀ x ∈ P, sc.names.lookup x = some .local ∨ sc.names.lookup x = some .cell
  nofree : ∀ y ∈ sc.names, y.2 ≠ .free

theorem bindL_out {kindOf : Str → Option NameKind} {x : Str} : ∀ {binds : List (Str × Value)} {m : Str → Option Value}, (∀ v, (x, v) ∉ binds) → bindL kindOf binds m x = m x
  | [], _, _ => rfl
  | (n, v) :: r, m, h => by
    unfold bindL
    rw [bindL_out fun w hw => h w (List.mem_cons_of_mem _ hw)]
    split
    · have : x ≠ n := by rintro rfl; exact h v List.mem_cons_self
      simp [this]
    · rfl
theorem bindC_out {kindOf : Str → Option NameKind} {x : Str} : ∀ {binds : List (Str × Value)} {m : Str → Option Value}, (∀ v, (x, v) ∉ binds) → bindC kindOf binds m x = m x
  | [], _, _ => rfl
  | (n, v) :: r, m, h => by
    unfold bindC
    rw [bindC_out fun w hw => h w (List.mem_cons_of_mem _ hw)]
    split
    · rfl
    · have : x ≠ n := by rintro rfl; exact h v List.mem_cons_self
      simp [this]
theorem bindL_get {kindOf : Str → Option NameKind} {x : Str} {v : Value} : ∀ {P : List Str} {vs : List Value} {i : Nat} {m : Str → Option Value}, P.Nodup → P[i]? = some x → vs[i]? = some v → kindOf x = some .local →
    bindL kindOf (P.zip vs) m x = some v
  | [], _, _, _, _, h, _, _ => by simp at h
  | _ :: _, [], _, _, _, _, h, _ => by simp at h
  | p :: P, w :: vs, 0, m, nd, h1, h2, hk => by
    simp at h1 h2; subst h1; subst h2
    show bindL kindOf ((p, w) :: P.zip vs) m p = _
    unfold bindL
    rw [bindL_out fun v hv => (List.nodup_cons.mp nd).1 (List.of_mem_zip hv).1, if_pos hk]
    simp
  | p :: P, w :: vs, i + 1, m, nd, h1, h2, hk => by
    show bindL kindOf ((p, w) :: P.zip vs) m x = _
    unfold bindL
    exact bindL_get (i := i) (List.nodup_cons.mp nd).2 (by simpa using h1) (by simpa using h2) hk
theorem bindC_get {kindOf : Str → Option NameKind} {x : Str} {v : Value} : ∀ {P : List Str} {vs : List Value} {i : Nat} {m : Str → Option Value}, P.Nodup → P[i]? = some x → vs[i]? = some v → kindOf x ≠ some .local →
    bindC kindOf (P.zip vs) m x = some v
  | [], _, _, _, _, h, _, _ => by simp at h
  | _ :: _, [], _, _, _, _, h, _ => by simp at h
  | p :: P, w :: vs, 0, m, nd, h1, h2, hk => by
    simp at h1 h2; subst h1; subst h2
    show bindC kindOf ((p, w) :: P.zip vs) m p = _
    unfold bindC
    rw [bindC_out fun v hv => (List.nodup_cons.mp nd).1 (List.of_mem_zip hv).1, if_neg hk]
    simp
  | p :: P, w :: vs, i + 1, m, nd, h1, h2, hk => by
    show bindC kindOf ((p, w) :: P.zip vs) m x = _
    unfold bindC
    exact bindC_get (i := i) (List.nodup_cons.mp nd).2 (by simpa using h1) (by simpa using h2) hk

/-- the names' values at the entry -/
def start (N : List Str) (vs : List V) : St := vs.map some ++ List.replicate (N.length - vs.length) none

/-- the context of a def's body, at its entry; an exception leaves the frame, then lies as CX says -/
def cxOf (CX : CXT) (P : Program) (w : World) (K : PySem.W.Frag) (mg : Str → Option Value) (base : Heap) (N : List Str) (qual : Str) (scope : Scope) (f : Addr) (cd : Value) (A : Around) (outer : List Env) (s : Shared) (H : Hp) (E : XK) : Cx where
  prog := P
  w := w
  K := K
  mg := mg
  base := base
  A := A.deeper (envOfC qual scope s.heap.objs.size f cd)
  N := N
  s_0 := s
  H_0 := H
  env := envOfC qual scope s.heap.objs.size f cd
  outer := outer
  stack := envOfC qual scope s.heap.objs.size f cd :: outer
  ex := []
  calm := true
  fn := fun _ => true
  pn := []
  xe := fun e s' => wpAny (model P w) (A.deeper (envOfC qual scope s.heap.objs.size f cd)) (leaving (envOfC qual scope s.heap.objs.size f cd) e) (fun _ s'' => CX outer H s E e s'') (fun e' s'' => CX outer H s E e' s'') s'

theorem cell_has {sc : Scope} {n : Nat} {x : Str} (h : sc.names.lookup x = some .cell) : ∃ c, (cellsFrom n sc.names []).lookup x = some c := by
  have q := PySem.W.cellsFrom_some sc.names n [] (.inl h)
  exact Option.isSome_iff_exists.mp q

theorem inv_start {CX : CXT} {P : Program} {w : World} {K : PySem.W.Frag} {mg : Str → Option Value} {base : Heap} {N ps : List Str} {qual : Str} {scope : Scope} {f : Addr} {cd : Value} {A : Around} {outer : List Env} {s s1 : Shared} {H : Hp} {E : XK} {us : List Value} {vs : List V}
    (S : FnScope N ps scope) (hd : A.handled = none) (e0 : Env0 P w K mg base A outer s H) (hl : vs.length = ps.length) (r : Vals vs us)
    (x : InCallC s s.heap.objs.size (bindL (envOfC qual scope s.heap.objs.size f cd).kindOf (ps.zip us) fun _ => none) (cellsFrom (s.heap.objs.size + 1) scope.names []) (bindC (envOfC qual scope s.heap.objs.size f cd).kindOf (ps.zip us) fun _ => none) s1) :
    Inv (cxOf CX P w K mg base N qual scope f cd A outer s H E) [] (start N vs) H s1 := by
  have hpl : ps.length ≤ N.length := by have := congrArg List.length S.pre; rw [List.length_take] at this; omega
  obtain ⟨h1, tk, rfl, hk⟩ := x.done
  have noA : ∀ b : Addr, b ∉ (cxOf CX P w K mg base N qual scope f cd A outer s H E).ex := fun b z => absurd (show b ∈ ([] : List Addr) from z) (by simp)
  refine ⟨⟨e0.mod, S.kind, rfl, rfl, Nat.le_refl _, fun y z c h1 h2 => ?_, fun y hy => ?_, fun y c _ h => ?_, fun _ => hd, Around.frames_deeper e0.frames, .inr ⟨rfl, rfl⟩, fun b z => absurd z (noA b), e0.bs, e0.bsz, fun b _ _ => noA b, fun b z => absurd z (noA b), e0.funs, e0.frf⟩,
    rfl, e0.bare, Un.kept hk, ⟨_, x.toInCall.ns, fun i y v h1 h2 h3 => ?_⟩, fun y c h => ⟨_, x.cell y c h⟩, e0.hok.fresh (Nat.le_refl _), fun y c h => ?_, fun p hp => absurd (show p ∈ ([] : List (Addr × Obj)) from hp) (by simp), e0.hok.kept hk, ?_⟩
  · exact name_of_addr x.apart (PySem.mem_of_lookup h1) (PySem.mem_of_lookup h2)
  · have hy : scope.names.lookup y = some .cell ∨ scope.names.lookup y = some .free := hy
    rcases hy with hy | hy
    · exact cell_has hy
    · exact absurd rfl (S.nofree _ (PySem.mem_of_lookup hy))
  · exact Nat.le_of_lt (x.above y c (PySem.mem_of_lookup h))
  · have hi : i < vs.length := by
      unfold start at h2
      by_cases hi : i < vs.length
      · exact hi
      · rw [List.getElem?_append_right (by simpa using hi)] at h2
        rw [List.getElem?_replicate] at h2
        split at h2 <;> cases h2
    have ha : vs[i]? = some v := by
      unfold start at h2
      rw [List.getElem?_append_left (by simpa using hi), List.getElem?_map] at h2
      cases e : vs[i]? with
      | none => rw [e] at h2; cases h2
      | some a => rw [e] at h2; cases h2; rfl
    obtain ⟨u, hu, rv⟩ := r.get ha
    have hp : ps[i]? = some y := by
      rw [← S.pre, List.getElem?_take_of_lt (by omega)]; exact h1
    have ndP : ps.Nodup := by rw [← S.pre]; exact S.nd.sublist (List.take_sublist _ _)
    refine ⟨u, rv, ?_⟩
    rcases S.par y (List.mem_of_getElem? hp) with k | k
    · exact .inl ⟨k, bindL_get ndP hp hu k⟩
    · obtain ⟨c, e⟩ := cell_has (n := s.heap.objs.size + 1) k
      refine .inr ⟨.inl k, c, e, ?_⟩
      have q := x.cell y c e
      rw [bindC_get ndP hp hu (by show scope.names.lookup y ≠ _; rw [k]; decide)] at q
      exact q
  · exact e0.hok.fresh (Nat.le_of_lt (x.above y c (PySem.mem_of_lookup h)))
  · unfold start
    show _ = N.length
    rw [List.length_append, List.length_map, List.length_replicate]
    omega

/-- THE RULE: a def (or a method) of the text, by its body. The body's reading t is chosen for each entry; it is run at the parameters' values -/
theorem fn_of {CX : CXT} {P : Program} {w : World} {K : PySem.W.Frag} {mg : Str → Option Value} {base : Heap} {k : Nat} {f : Addr} {name qual : Str} {params : Arguments} {body : List Stmt} {scope : Scope} {dV kV doc pm cdv ct oc : Value} {an od : Option Addr}
    {osl : Array (Option Value)} {N ps : List Str} {sp : Sp} (lk : K.lookup f = some ⟨oc, od, .func (PySem.W.fnOf name qual params body scope dV kV doc pm an cdv ct), osl⟩) (hcd : PySem.W.codeIn K cdv qual = true) (S : FnScope N ps scope)
    (len : ∀ vs H Q E, sp vs H Q E → vs.length = ps.length)
    (hbody : ∀ (A : Around) (outer : List Env) (s : Shared) (H : Hp) (vs : List V) (Q : VK) (E : XK), Room k (A.deeper (envOfC qual scope s.heap.objs.size f cdv)) → sp vs H Q E →
      ∃ t, PSs (cxOf CX P w K mg base N qual scope f cdv A outer s H E) body t ∧ t { nx := fun _ H' => Q .non H', rt := Q } (start N vs) H) :
    FnOk P w K mg base CX (k + 1) f (PySem.W.fnOf name qual params body scope dV kV doc pm an cdv ct) ps sp := by
  refine ⟨len, fun A outer s H args us vs Q E hr e0 hb r hsp => ?_⟩
  have hl := len _ _ _ _ hsp
  have KX : K.In s.heap := e0.mod.kin.keeps fun b o e => (e0.bs b o e).1
  have lim : s.heap.NoLimit := e0.mod.nolimit.keeps fun b o e => (e0.bs b o e).1
  have hkind : ∀ y ∈ ps.zip us, scope.names.lookup y.1 = some .local ∨ (scope.names.lookup y.1 = some .cell ∧ ((cellsFrom (s.heap.objs.size + 1) scope.names []).lookup y.1).isSome = true) := fun ⟨n, v⟩ hy => by
    rcases S.par n (List.of_mem_zip hy).1 with q | q
    · exact .inl q
    · exact .inr ⟨q, PySem.W.cellsFrom_some _ _ _ (.inl q)⟩
  refine codeAny_call_function hr.depth (KX _ _ lk) rfl S.co S.gen rfl (PySem.W.codeRec_of KX hcd) (hb _ _ _ _ ?_)
  refine wpAny_newFunctionEnv_cells S.kind hkind fun env he s1 x => ?_
  subst he
  refine ⟨lim.keeps x.toInCall.keep, codeAny_func ?_⟩
  obtain ⟨t, ht, hq⟩ := hbody A outer s H vs Q E (hr.deeper _) hsp
  have I : Inv (cxOf CX P w K mg base N qual scope f cdv A outer s H E) [] (start N vs) H s1 := inv_start S hr.hd e0 hl r x
  refine wpAny_mono (ht [] s1 (start N vs) H _ I hq) (fun fl s' hs => ?_) fun e s' hs => hs
  have fin : ∀ {σ' : St} {H' : Hp} {v : V} {u : Value}, Inv (cxOf CX P w K mg base N qual scope f cdv A outer s H E) [] σ' H' s' → RelV v u → Q v H' → CE outer P w H s Q u s' :=
    fun {σ' H' v u} J rv q => ⟨v, H', J.os, J.bare, J.base, J.hok, rv, q⟩
  cases fl with
  | ret u =>
    obtain ⟨v, σ', H', J, rv, q⟩ := hs
    exact fin J rv q
  | next =>
    obtain ⟨σ', H', J, q⟩ := hs
    exact fin (v := V.non) (u := Value.none) J rfl q
  | brk =>
    obtain ⟨_, _, _, q⟩ := hs
    exact False.elim q
  | cont =>
    obtain ⟨_, _, _, q⟩ := hs
    exact False.elim q
end L2

namespace L2
open PySem PySem.Spec PyProof.Rows
section
variable {X : Cx} {x : Str} {p pos : Pos} {e : Expr} {es : List Expr} {t : TA} {id T : String} {r : List V → Hp → VK → Prop}

def tCB (r : List V → Hp → VK → Prop) (t : TA) : TE := fun σ H Q => t σ H fun vs H1 => r vs H1 Q
/-- f(e, ..), f a built-in function -/
theorem pe_callB (hc : CallR X (.builtin id) r) (hg : Gl X x) (hm : X.mg x = none) (hv : bootBuiltins x = some (.builtin id)) (ha : PA X (e :: es) t) (hn : x ≠ "__name__" := by decide) (hdb : (x == ("__debug__" : Str)) = false := by decide)
    (he : starEach (e :: es) X.env = (false, eval e X.env) :: starEach es X.env := by rfl) (hpl : (backTo pos (starEach es X.env)).any (·.1) = false := by rfl) : PE X (.Call (.Name x p) (e :: es) [] pos) (tCB r t) := by
  intro pins s σ H Q I h
  refine wpAny_Call_Name_kw (ld_blt I hg hm hv ?_ hn hdb)
  exact PyProof.Rows.callWith_builtin1 (thn (ha pos pins s σ H _ I h) fun us s1 ⟨vs, H1, I1, r1, q1⟩ => hc pins s1 σ H1 vs us Q I1 r1 q1) he hpl
/-- T(e, ..), T a built-in type -/
theorem pe_callTy (hc : CallR X (.type T) r) (hg : Gl X x) (hm : X.mg x = none) (hv : bootBuiltins x = some (.type T)) (ha : PA X (e :: es) t) (hn : x ≠ "__name__" := by decide) (hdb : (x == ("__debug__" : Str)) = false := by decide)
    (he : starEach (e :: es) X.env = (false, eval e X.env) :: starEach es X.env := by rfl) (hpl : (backTo pos (starEach es X.env)).any (·.1) = false := by rfl) : PE X (.Call (.Name x p) (e :: es) [] pos) (tCB r t) := by
  intro pins s σ H Q I h
  refine wpAny_Call_Name_kw (ld_blt I hg hm hv ?_ hn hdb)
  exact PyProof.Rows.callWith_type1 (thn (ha pos pins s σ H _ I h) fun us s1 ⟨vs, H1, I1, r1, q1⟩ => hc pins s1 σ H1 vs us Q I1 r1 q1) he hpl
end
end L2

namespace HT
open PySem PyProof.Rows



section
open PySem.SeqAt
open PySem.AutoSeq1 (wpAny_loadPart')
open PySem.MeetsSeq PySem.MeetsSeq2 PySem.MeetsSeq3

end

section
variable {prog : Program} {w : World} {A : Around} {E : Value → Shared → Prop} {s : Shared}



/-! ### t[a:b], not the whole -/
/-- a slice's bound as a place among n (d where it is left out) -/
def sIx (n d : Nat) : Option Int → Nat
  | none => d
  | some v => if v < 0 then (v + (n : Int)).toNat else min v.toNat n
theorem sIx_nat (n d k : Nat) : sIx n d (some (k : Int)) = min k n := by
  show (if (k : Int) < 0 then ((k : Int) + (n : Int)).toNat else min (k : Int).toNat n) = min k n
  rw [if_neg (by omega), Int.toNat_natCast]

end
end HT

namespace L2
open PySem PySem.Spec PyProof.Rows

/-! ### the parts of a slice -/
abbrev TO := St → Hp → (Option Int → Hp → Prop) → Prop
/-- a slice's part (left out, or an int) -/
def PO (X : Cx) (e : Option Expr) (t : TO) : Prop :=
  ∀ (pins : List (Addr × Obj)) (s : Shared) (σ : St) (H : Hp) (Q : Option Int → Hp → Prop), Inv X pins σ H s → t σ H Q →
    wpAny (model X.prog X.w) X.A (evalPart e X.env) (fun u s' => ∃ o H', Inv X pins σ H' s' ∧ IsPart u o ∧ Q o H') X.xe s
def tNoPart : TO := fun _ H Q => Q none H
def tPart (t : TE) : TO := fun σ H Q => t σ H fun x H1 => ∃ i, x = .int i ∧ Q (some i) H1


section
variable {X : Cx} {e : Expr} {te : TE} {lo hi : Option Expr} {tl th : TO} {pos p2 : Pos}

theorem po_none : PO X none tNoPart := by
  intro pins s σ H Q I h
  rw [evalPart_none]
  exact wpAny_pure ⟨none, H, I, .none, h⟩
theorem po_some (h : PE X e te) : PO X (some e) (tPart te) := by
  intro pins s σ H Q I hw
  rw [evalPart_some]
  refine thn (h pins s σ H _ I hw) fun u s1 ⟨x, H1, I1, r1, q1⟩ => ?_
  obtain ⟨i, rfl, q⟩ := q1
  obtain ⟨t, rfl⟩ := r1
  exact ⟨some i, H1, I1, .int i t, q⟩

/-- what a slice of a value is, by values: the slice object stands at sl -/
def SlR (X : Cx) (r : V → Option Int → Option Int → Hp → VK → Prop) : Prop :=
  ∀ (pins : List (Addr × Obj)) (s : Shared) (σ : St) (H : Hp) (x : V) (v vl vu : Value) (lo hi : Option Int) (sl : Addr) (Q : VK), Inv X pins σ H s → RelV x v → s.heap.IsSliceOf sl vl vu .none → IsPart vl lo → IsPart vu hi → r x lo hi H Q →
    ∃ T id, typeLookup (.type T) "__getitem__" = pure (some (.builtin id)) ∧ s.TypeIs v T ∧ wpAny (model X.prog X.w) X.A (getItem v (.ref sl)) (EP X pins σ Q) X.xe s
def tSl (r : V → Option Int → Option Int → Hp → VK → Prop) (te : TE) (tl th : TO) : TE := fun σ H Q => te σ H fun x H1 => tl σ H1 fun l H2 => th σ H2 fun u H3 => r x l u H3 Q
/-- a[lo:hi], any a -/
theorem pe_slice {r : V → Option Int → Option Int → Hp → VK → Prop} (hr : SlR X r) (he : PE X e te) (hl : PO X lo tl) (hu : PO X hi th) : PE X (.Subscript e (.Slice lo hi none p2) pos) (tSl r te tl th) := by
  intro pins s σ H Q I h
  refine Subscript_ (thn (he pins s σ H _ I h) fun v s1 ⟨x, H1, I1, r1, q1⟩ => ?_)
  refine wpAny_Slice (thn (hl pins s1 σ H1 _ I1 q1) fun vl s2 ⟨l, H2, I2, pl, q2⟩ => thn (hu pins s2 σ H2 _ I2 q2) fun vu s3 ⟨u, H3, I3, pu, q3⟩ => ?_)
  rw [evalPart_none]
  refine wpAny_pure ?_
  have I4 : Inv X pins σ H3 { s3 with heap := s3.heap.push { cls := .type "slice", data := .fields #[vl, vu, .none] } } := I3.kept (t' := s3.toks) fun b ob q => Heap.get?_push_of_some _ q
  obtain ⟨T, id, hT, ht, hg⟩ := hr pins { s3 with heap := s3.heap.push { cls := .type "slice", data := .fields #[vl, vu, .none] } } σ H3 x v vl vu l u s3.heap.objs.size Q I4 r1 (Heap.IsSliceOf.new ..) pl pu q3
  show wpAny (model X.prog X.w) X.A (subscriptTail e (.Slice lo hi none p2) v (.ref s3.heap.objs.size)) (EP X pins σ Q) X.xe { s3 with heap := s3.heap.push { cls := .type "slice", data := .fields #[vl, vu, .none] } }
  exact tail_any (ops := [.ref s3.heap.objs.size, v]) ht hT hg (by with_unfolding_all rfl)

/-- the items of xs[lo:hi] -/
def cutV (xs : List V) (lo hi : Option Int) : List V := (xs.drop (HT.sIx xs.length 0 lo)).take (HT.sIx xs.length xs.length hi - HT.sIx xs.length 0 lo)
theorem cutV_length (xs : List V) (lo hi : Option Int) : (cutV xs lo hi).length ≤ xs.length := by
  unfold cutV
  rw [List.length_take, List.length_drop]
  omega

/-! ### t < u, t + u -/
end
end L2

namespace L2
open PySem PySem.Spec PyProof.Rows

/-! ### places -/
/-- the place that an index of any sign means -/
def ixN (n : Nat) (i : Int) : Option Nat := if 0 ≤ i then (if i < n then some i.toNat else none) else if -(n : Int) ≤ i then some (i + n).toNat else none
def atI {α : Type} (xs : List α) (i : Int) : Option α := (ixN xs.length i).bind fun j => xs[j]?
theorem ixN_seq {n : Nat} {i : Int} {j : Nat} (h : ixN n i = some j) : seqIndex? i n = some j ∧ j < n ∧ -(n : Int) ≤ i ∧ i < n := by
  unfold ixN at h
  by_cases h0 : 0 ≤ i
  · rw [if_pos h0] at h
    by_cases h1 : i < n
    · rw [if_pos h1] at h
      have e : i.toNat = j := Option.some.inj h
      exact ⟨by rw [seqIndex_of h0 h1, e], by omega, by omega, h1⟩
    · rw [if_neg h1] at h; cases h
  · rw [if_neg h0] at h
    by_cases h1 : -(n : Int) ≤ i
    · rw [if_pos h1] at h
      have e : (i + n).toNat = j := Option.some.inj h
      exact ⟨by rw [seqIndex_neg (by omega) h1, e], by omega, h1, by omega⟩
    · rw [if_neg h1] at h; cases h
theorem atI_get {α : Type} {xs : List α} {i : Int} {v : α} (h : atI xs i = some v) : ∃ j, seqIndex? i xs.length = some j ∧ xs[j]? = some v ∧ j < xs.length ∧ -(xs.length : Int) ≤ i ∧ i < xs.length := by
  unfold atI at h
  cases e : ixN xs.length i with
  | none => rw [e] at h; cases h
  | some j =>
    rw [e] at h
    obtain ⟨h1, h2, h3, h4⟩ := ixN_seq e
    exact ⟨j, h1, h, h2, h3, h4⟩
theorem atI_nat {α : Type} {xs : List α} {j : Nat} {v : α} (h : xs[j]? = some v) : atI xs (j : Int) = some v := by
  have hj : j < xs.length := (List.getElem?_eq_some_iff.mp h).1
  have e : ixN xs.length (j : Int) = some j := by
    unfold ixN
    rw [if_pos (by omega), if_pos (by omega)]; simp
  unfold atI; rw [e]; exact h

/-! ### what may be subscripted -/
/-- what stands as an index of a plain subscript -/
def PlainIx (b : Expr) : Prop := ∀ o i, subscripted b false o i = operate [o, i] (getItem o i)
/-- a subscript by values -/
def IxR (X : Cx) (r : R2) : Prop :=
  ∀ (value slice : Expr) (pins : List (Addr × Obj)) (s : Shared) (σ : St) (H : Hp) (x y : V) (v u : Value) (Q : VK), Inv X pins σ H s → RelV x v → RelV y u → r x y H Q →
    subscripted slice false v u = operate [v, u] (getItem v u) → wpAny (model X.prog X.w) X.A (subscriptTail value slice v u) (EP X pins σ Q) X.xe s
/-- a call of a builtin's method by values: the receiver, the arguments -/
def MtR (X : Cx) (id : String) (r : V → List V → Hp → VK → Prop) : Prop :=
  ∀ (pins : List (Addr × Obj)) (s : Shared) (σ : St) (H : Hp) (x : V) (xs : List V) (v : Value) (us : List Value) (Q : VK), Inv X pins σ H s → RelV x v → Vals xs us → r x xs H Q →
    wpAny (model X.prog X.w) X.A (call (.builtin id) (v :: us)) (EP X pins σ Q) X.xe s
section
variable {X : Cx} {a b : Expr} {ta tb : TE} {pos : Pos}
/-- a[b] -/
theorem pe_ix {r : R2} (hr : IxR X r) (ha : PE X a ta) (hb : PE X b tb) (hs : PlainIx b) : PE X (.Subscript a b pos) (tOp r ta tb) := by
  intro pins s σ H Q I h
  exact Subscript_ (binT ha hb I h fun v u s2 x y H2 I2 rx ry q => hr a b pins s2 σ H2 x y v u Q I2 rx ry q (hs _ _))

def rIxL (K : PySem.W.Frag) : R2 := fun x y H Q => ∃ p xs i v, x = .ref p ∧ y = .int i ∧ SqL K H p xs ∧ atI xs i = some v ∧ Q v H
def rIxT (K : PySem.W.Frag) : R2 := fun x y H Q => ∃ p xs i v, x = .ref p ∧ y = .int i ∧ SqT K H p xs ∧ atI xs i = some v ∧ Q v H
theorem ix_list : IxR X (rIxL X.K) := by
  intro value slice pins s σ H x y v u Q I rx ry h hs
  obtain ⟨p, xs, i, z, rfl, rfl, hq, he, q⟩ := h
  cases rx
  obtain ⟨t, rfl⟩ := ry
  obtain ⟨its, r, pl, hz⟩ := I.list hq
  obtain ⟨j, h1, h2, h3, h4, h5⟩ := atI_get he
  obtain ⟨w, ew, rw'⟩ := r.get h2
  have hl := r.length
  have hn := line63
  have fin : EP X pins σ Q w s := ⟨z, H, I, rw', q⟩
  by_cases h0 : 0 ≤ i
  · have hj : i.toNat = j := by
      rw [seqIndex_of h0 h5] at h1
      exact Option.some.inj h1
    exact item_listR pl.isList h0 (by omega) (by rw [hj]; simpa using ew) fin hs
  · have hj : (i + (its.toArray.size : Int)).toNat = j := by
      rw [seqIndex_neg (by omega) h4] at h1
      rw [List.size_toArray, ← hl]
      exact Option.some.inj h1
    exact subscriptTail_builtinR (x := w) pl.isList.typeIs slot_list_getitem.lookup
      (wpAny_getItem_list_neg (Q := fun r s' => r = w ∧ EP X pins σ Q r s') pl.isList (by omega) (by rw [List.size_toArray] <;> omega) (by omega) (by rw [hj]; simpa using ew) ⟨rfl, fin⟩) hs
theorem ix_tup : IxR X (rIxT X.K) := by
  intro value slice pins s σ H x y v u Q I rx ry h hs
  obtain ⟨p, xs, i, z, rfl, rfl, hq, he, q⟩ := h
  cases rx
  obtain ⟨t, rfl⟩ := ry
  obtain ⟨its, r, pl, hz⟩ := I.tuple hq
  obtain ⟨j, h1, h2, h3, h4, h5⟩ := atI_get he
  obtain ⟨w, ew, rw'⟩ := r.get h2
  have hl := r.length
  have hn := line63
  have fin : EP X pins σ Q w s := ⟨z, H, I, rw', q⟩
  exact subscriptTail_builtinR (x := w) pl.typeIs slot_tuple_getitem.lookup
    (getItem_tuple (j := j) (Q := fun r s' => r = w ∧ EP X pins σ Q r s') pl (by omega) (by omega) (by rw [List.size_toArray, ← hl]; exact h1) (by simpa using ew) ⟨rfl, fin⟩) hs

/-! ### xs[i] = v, any sign -/
/-- the list's object behind a store -/
theorem mapSeq_set (its : List Value) (n j : Nat) (u : Value) : Obj.mapSeq (·.setIfInBounds j u) { cls := .type "list", data := .seq its.toArray n } = { cls := .type "list", data := .seq (its.set j u).toArray n } := by
  simp [Obj.mapSeq]
theorem Inv.lst {pins : List (Addr × Obj)} {σ : St} {H : Hp} {s : Shared} {p : Addr} {xs : List V} (I : Inv X pins σ H s) (h : H p = some (.lst xs)) :
    ∃ (its : List Value) (n : Nat), Vals xs its ∧ s.heap.get? p = some { cls := .type "list", data := .seq its.toArray n } ∧ xs.length ≤ sizeLine := by
  obtain ⟨z, its, n, r, e⟩ := I.hok p _ h
  exact ⟨its, n, r, e, z⟩
/-- the list at p is written by an update of its object -/
theorem Inv.lstUpd {pins : List (Addr × Obj)} {σ : St} {H : Hp} {s : Shared} {p : Addr} {xs ys : List V} {its its' : List Value} {n n' : Nat} {f : Obj → Obj} (I : Inv X pins σ H s) (h : H p = some (.lst xs))
    (ho : s.heap.get? p = some { cls := .type "list", data := .seq its.toArray n }) (hf : f { cls := .type "list", data := .seq its.toArray n } = { cls := .type "list", data := .seq its'.toArray n' }) (r : Vals ys its') (hz : ys.length ≤ sizeLine) (t : Nat) :
    Inv X pins σ (upd H p (.lst ys)) { s with heap := s.heap.update p f, toks := t } := by
  have e : (s.heap.update p f).get? p = some { cls := .type "list", data := .seq its'.toArray n' } := by
    rw [Heap.get?_update_self f ho (by rw [hf] <;> rfl), hf]
  refine I.write (x := p) (e := p) (by rw [h]; trivial) (.inl rfl) (fun b u hb q => (Heap.get?_update_other _ _ (Ne.symm hb)).trans q) ⟨_, e⟩ ?_
  exact ⟨hz, its', n', r, e⟩
def rSetL : V → V → V → Hp → (Hp → Prop) → Prop := fun o i v H Q => ∃ p xs k j, o = .ref p ∧ i = .int k ∧ H p = some (.lst xs) ∧ ixN xs.length k = some j ∧ Q (upd H p (.lst (xs.set j v)))
theorem set_list : PSet X rSetL := by
  intro pins s σ H o i v ov iv u Q I ro ri rv h
  obtain ⟨p, xs, k, j, rfl, rfl, hp, hj, q⟩ := h
  cases ro
  obtain ⟨t, rfl⟩ := ri
  obtain ⟨its, n, r, ho, hz⟩ := I.lst hp
  obtain ⟨h1, h2, h3, h4⟩ := ixN_seq hj
  have hl := r.length
  have hn := line63
  have I' : Inv X pins σ (upd H p (.lst (xs.set j v))) { s with heap := s.heap.update p (Obj.mapSeq (·.setIfInBounds j u)) } :=
    I.lstUpd hp ho (mapSeq_set its n j u) (r.set rv j) (by rw [List.length_set]; exact hz) s.toks
  by_cases h0 : 0 ≤ k
  · have hk : k.toNat = j := by
      rw [seqIndex_of h0 h4] at h1
      exact Option.some.inj h1
    exact PySem.W.ki_setAt ho h0 (by omega) (by rw [List.size_toArray, ← hl]; exact h4) (by rw [hk]; exact ⟨_, I', q⟩)
  · have hk : (k + (its.toArray.size : Int)).toNat = j := by
      rw [seqIndex_neg (by omega) h3] at h1
      rw [List.size_toArray, ← hl]
      exact Option.some.inj h1
    exact PySem.W.ki_setBack ho (by omega) (by rw [List.size_toArray, ← hl]; exact h3) (by omega) (by rw [hk]; exact ⟨_, I', q⟩)

/-! ### slices -/
theorem slice_bounds (lo hi : Option Int) (n : Nat) : (sliceBounds lo hi none n).1 = ((HT.sIx n 0 lo : Nat) : Int) ∧ (sliceBounds lo hi none n).2.1 = ((HT.sIx n n hi : Nat) : Int) ∧ (sliceBounds lo hi none n).2.2 = 1 := by
  refine ⟨?_, ?_, rfl⟩
  · cases lo with
    | none => simp [sliceBounds, HT.sIx]
    | some i =>
      simp only [sliceBounds, HT.sIx, Option.getD_none, show (1 : Int) > 0 by decide, if_true]
      by_cases h : i < 0
      · simp only [h, if_true] <;> omega
      · simp only [h, if_false] <;> omega
  · cases hi with
    | none => simp [sliceBounds, HT.sIx]
    | some i =>
      simp only [sliceBounds, HT.sIx, Option.getD_none, show (1 : Int) > 0 by decide, if_true]
      by_cases h : i < 0
      · simp only [h, if_true] <;> omega
      · simp only [h, if_false] <;> omega
theorem slicePick_cut (its : List Value) (lo hi : Option Int) : slicePick its.toArray lo hi none = ((its.drop (HT.sIx its.length 0 lo)).take (HT.sIx its.length its.length hi - HT.sIx its.length 0 lo)).toArray := by
  obtain ⟨h1, h2, h3⟩ := slice_bounds lo hi its.toArray.size
  unfold slicePick
  rw [h1, h2, h3]
  simp only [sliceRange_one, pick_run, List.size_toArray] <;> rfl
/-- xs[lo:hi] of a list: a new list -/
def rSlL (K : PySem.W.Frag) : V → Option Int → Option Int → Hp → VK → Prop := fun x lo hi H Q => ∃ a xs, x = .ref a ∧ SqL K H a xs ∧ ∀ p, H p = none → Q (.ref p) (upd H p (.lst (cutV xs lo hi)))
theorem sl_list : SlR X (rSlL X.K) := by
  intro pins s σ H x v vl vu lo hi sl Q I rx hs pl pu h
  obtain ⟨a, xs, rfl, hx, q⟩ := h
  cases rx
  obtain ⟨its, r, ht, hz⟩ := I.list hx
  have hlen := r.length
  refine ⟨"list", _, slot_list_getitem.lookup, ht.isList.typeIs, ?_⟩
  refine wpAny_getItem_list_slice ht.isList hs pl pu .none (by simp) ?_ (by rw [List.size_toArray] <;> omega)
  rw [slicePick_cut, ← hlen]
  refine ⟨.ref s.heap.objs.size, _, I.laid (t' := s.toks) (o := .lst (cutV xs lo hi)) (fun b ob q => Heap.get?_push_of_some _ q) (Nat.le_refl _) ?_, rfl, q _ (I.hok.fresh (Nat.le_refl _))⟩
  exact ⟨Nat.le_trans (cutV_length xs lo hi) hz, _, 0, (r.drop (HT.sIx xs.length 0 lo)).take (HT.sIx xs.length xs.length hi - HT.sIx xs.length 0 lo), Heap.get?_push_size _ rfl⟩

/-! ### in, not in: flat items -/
def flatV : V → Bool
  | .non => true
  | .bl _ => true
  | .int _ => true
  | .str _ => true
  | _ => false
/-- == of flat values -/
def eqV : V → V → Bool
  | .non, .non => true
  | .bl a, .bl b => a == b
  | .bl a, .int b => (if a then 1 else 0) == b
  | .int a, .bl b => a == (if b then 1 else 0)
  | .int a, .int b => a == b
  | .str a, .str b => a == b
  | _, _ => false
theorem eqAt_V {A : Around} {s : Shared} {y x : V} {u v : Value} (ry : RelV y u) (rx : RelV x v) (fy : flatV y = true) (fx : flatV x = true) : SeqAt.EqAt A s u v (eqV y x) := by
  cases y with
  | non =>
    cases ry
    cases x with
    | non => cases rx; exact SeqAt.EqAt.same _
    | bl b => cases rx; exact SeqAt.EqAt.none_bool b
    | int b => obtain ⟨t, rfl⟩ := rx; exact SeqAt.EqAt.none_int b t
    | str b => obtain ⟨t, rfl⟩ := rx; exact SeqAt.EqAt.none_str b t
    | _ => exact absurd (show false = true from fx) Bool.false_ne_true
  | bl a =>
    cases ry
    cases x with
    | non => cases rx; exact SeqAt.EqAt.bool_none a
    | bl b => cases rx; exact SeqAt.EqAt.bool_bool a b
    | int b => obtain ⟨t, rfl⟩ := rx; exact SeqAt.EqAt.bool_int a b t
    | str b => obtain ⟨t, rfl⟩ := rx; exact SeqAt.EqAt.bool_str a b t
    | _ => exact absurd (show false = true from fx) Bool.false_ne_true
  | int a =>
    obtain ⟨t', rfl⟩ := ry
    cases x with
    | non => cases rx; exact SeqAt.EqAt.int_none a t'
    | bl b => cases rx; exact SeqAt.EqAt.int_bool a t' b
    | int b => obtain ⟨t, rfl⟩ := rx; exact SeqAt.EqAt.int_int a t' b t
    | str b => obtain ⟨t, rfl⟩ := rx; exact SeqAt.EqAt.int_str a t' b t
    | _ => exact absurd (show false = true from fx) Bool.false_ne_true
  | str a =>
    obtain ⟨t', rfl⟩ := ry
    cases x with
    | non => cases rx; exact SeqAt.EqAt.str_none a t'
    | bl b => cases rx; exact SeqAt.EqAt.str_bool a t' b
    | int b => obtain ⟨t, rfl⟩ := rx; exact SeqAt.EqAt.str_int a t' b t
    | str b => obtain ⟨t, rfl⟩ := rx; exact SeqAt.EqAt.str_str a t' b t
    | _ => exact absurd (show false = true from fx) Bool.false_ne_true
  | _ => exact absurd (show false = true from fy) Bool.false_ne_true

/-! ### len, list(x), tuple(x) of any list or tuple that is read -/
theorem call_len_seq : CallR X (.builtin "len") (fun xs H Q => ∃ p ys, xs = [.ref p] ∧ (SqL X.K H p ys ∨ SqT X.K H p ys) ∧ Q (.int ys.length) H) := by
  intro pins s σ H xs us Q I r h
  obtain ⟨p, ys, rfl, hq, q⟩ := h
  obtain ⟨u, rfl, rx⟩ := vals1 r
  cases rx
  have hn := line63
  rcases hq with hq | hq
  · obtain ⟨its, r', pl, hz⟩ := I.list hq
    have hlen := r'.length
    exact Calls.call_len_list pl.isList (by simp only [List.size_toArray] <;> omega) ⟨.int ys.length, H, I.tok _, ⟨s.toks + 1, by rw [List.size_toArray, hlen]⟩, q⟩
  · obtain ⟨its, r', pl, hz⟩ := I.tuple hq
    have hlen := r'.length
    exact len_tuple pl (by simp only [List.size_toArray] <;> omega) ⟨.int ys.length, H, I.tok _, ⟨s.toks + 1, by rw [List.size_toArray, hlen]⟩, q⟩

/-! ### the call of a builtin's method: o.m(..) -/
/-- the value is of that builtin type -/
def tyV (K : PySem.W.Frag) (T : String) (x : V) (H : Hp) : Prop := match x with
  | .str _ => T = "str"
  | .int _ => T = "int"
  | .ref p => (T = "list" ∧ ∃ xs, SqL K H p xs) ∨ (T = "tuple" ∧ ∃ o, K.lookup p = some o ∧ o.cls = .type "tuple" ∧ o.dict = none) ∨
      (T = "dict" ∧ ((∃ kvs, H p = some (.dK kvs)) ∨ ∃ kvs, H p = some (.dT kvs))) ∨ (T = "set" ∧ ∃ S n, H p = some (.set S n))
  | _ => False
theorem tyV_is {pins : List (Addr × Obj)} {σ : St} {H : Hp} {s : Shared} {T : String} {x : V} {v : Value} (I : Inv X pins σ H s) (r : RelV x v) (ty : tyV X.K T x H) :
    s.TypeIs v T ∧ ∀ a, v = .ref a → ∃ ob, s.heap.get? a = some ob ∧ ob.dict = none := by
  cases x with
  | str z =>
    obtain ⟨t, rfl⟩ := r
    cases (show T = "str" from ty)
    exact ⟨typeIs_str s z t, fun _ e => nomatch e⟩
  | int i =>
    obtain ⟨t, rfl⟩ := r
    cases (show T = "int" from ty)
    exact ⟨typeIs_int s i t, fun _ e => nomatch e⟩
  | ref p =>
    cases r
    rcases ty with ⟨rfl, xs, hq⟩ | ⟨rfl, o, hk, hc, hd⟩ | ⟨rfl, hk⟩ | ⟨rfl, S, n, hk⟩
    · obtain ⟨its, _, pl, _⟩ := I.list hq
      refine ⟨pl.isList.typeIs, fun a e => ?_⟩
      cases e
      obtain ⟨o, n, e, c, hd, _⟩ := pl
      exact ⟨o, e, hd⟩
    · refine ⟨⟨o, I.kIn p o hk, hc⟩, fun a e => ?_⟩
      cases e
      exact ⟨o, I.kIn _ o hk, hd⟩
    · have z : ∃ o, s.heap.get? p = some o ∧ o.ExactDict := by
        rcases hk with ⟨kvs, hk⟩ | ⟨kvs, hk⟩
        · obtain ⟨_, _, _, _, o, _, _, e, ex, _⟩ := I.hok p _ hk
          exact ⟨o, e, ex⟩
        · obtain ⟨_, _, _, _, o, _, _, e, ex, _⟩ := I.hok p _ hk
          exact ⟨o, e, ex⟩
      obtain ⟨o, e, ex⟩ := z
      refine ⟨⟨o, e, ex.1⟩, fun a e2 => ?_⟩
      cases e2
      exact ⟨o, e, ex.2.1⟩
    · obtain ⟨o, _, _, _, e, ex, _⟩ := I.hok p _ hk
      refine ⟨⟨o, e, ex.1⟩, fun a e2 => ?_⟩
      cases e2
      exact ⟨o, e, ex.2.1⟩
  | _ => exact False.elim ty
def tBM (K : PySem.W.Frag) (T : String) (r : V → List V → Hp → VK → Prop) (to : TE) (t : TA) : TE := fun σ H Q => to σ H fun x H1 => tyV K T x H1 ∧ t σ H1 fun xs H2 => r x xs H2 Q
variable {o e : Expr} {es : List Expr} {to : TE} {t : TA} {name : Str} {apos cpos : Pos} {T id : String} {r : V → List V → Hp → VK → Prop}
theorem pe_bm (pa : PlainAttrs T) (slot : Slot T name id) (hty : typeOf (.builtin id) = pure (.type "method_descriptor")) (hm : MtR X id r) (ho : PE X o to) (ha : PA X (e :: es) t)
    (hbase : attributeBase o name X.env (eval o X.env) = eval o X.env := by rfl)
    (hfew : ((backTo cpos (starEach (e :: es) X.env)).all (fun x => !x.1) && (backToKw cpos (keywordEach [] X.env)).all (fun x => x.1.isSome)
      && decide ((e :: es).length + ([] : List Keyword).length + (if ([] : List Keyword).isEmpty then 0 else 1) < 30)) = true := by rfl)
    (hline : (apos.endLine == cpos.line) = true := by rfl) (hs : starEach (e :: es) X.env = (false, eval e X.env) :: starEach es X.env := by rfl) (hplain : (backTo cpos (starEach es X.env)).any (·.1) = false := by rfl) :
    PE X (.Call (.Attribute o name apos) (e :: es) [] cpos) (tBM X.K T r to t) := by
  intro pins s σ H Q I h
  refine wpAny_Call_method_late hbase hfew hline rfl (thn (ho pins s σ H _ I h) fun v s1 ⟨x, H1, I1, r1, ty, q1⟩ => ?_)
  obtain ⟨h1, h2⟩ := tyV_is I1 r1 ty
  refine ⟨T, id, pa, slot, hty, h1, h2, ?_⟩
  have hA := ha cpos pins s1 σ H1 _ I1 q1
  rw [hs] at hA ⊢
  refine Calls.callWith_builtin (by show (false || (backTo cpos (starEach es X.env)).any (·.1)) = false; rw [hplain] <;> rfl) (Calls.evalArgs_plain ?_)
  exact thn hA fun us s2 ⟨vs, H2, I2, r2, q2⟩ => hm pins s2 σ H2 x vs v us Q I2 r1 r2 q2
/- xs.append(e), list.index on a module's tuple .. are MtR facts of 06m -/
end
end L2

namespace L2
open PySem PySem.Spec PyProof.Rows

def MtM (X : Cx) (id : String) (r : V → List V → Hp → VK → Prop) : Prop :=
  ∀ (pins : List (Addr × Obj)) (s : Shared) (σ : St) (H : Hp) (x : V) (xs : List V) (v : Value) (us : List Value) (Q : VK), Inv X pins σ H s → RelV x v → Vals xs us → r x xs H Q →
    wpAny (model X.prog X.w) X.A (call (.builtin id) (v :: us)) (EP X pins σ Q) X.xe s

/-! ### lists of values -/
theorem Vals.one : ∀ {x : V} {us : List Value}, Vals [x] us → ∃ u, us = [u] ∧ RelV x u
  | _, _, .cons r .nil => ⟨_, rfl, r⟩
theorem Vals.two : ∀ {x y : V} {us : List Value}, Vals [x, y] us → ∃ u v, us = [u, v] ∧ RelV x u ∧ RelV y v
  | _, _, _, .cons r (.cons q .nil) => ⟨_, _, rfl, r, q⟩
theorem Vals.rep {xs : List V} {us : List Value} (h : Vals xs us) : ∀ k : Nat, Vals (List.replicate k xs).flatten (List.replicate k us).flatten
  | 0 => .nil
  | k + 1 => by
    rw [List.replicate_succ, List.replicate_succ, List.flatten_cons, List.flatten_cons]
    exact Vals.append h (Vals.rep h k)
theorem foldl_rep (its : List Value) : ∀ (k : Nat) (acc : List Value),
    List.foldl (fun x1 x2 => x1 ++ x2) acc.toArray (List.replicate k its.toArray) = (acc ++ (List.replicate k its).flatten).toArray
  | 0, acc => by simp
  | k + 1, acc => by
    have e : acc.toArray ++ its.toArray = (acc ++ its).toArray := by simp
    have e2 : (acc ++ its) ++ (List.replicate k its).flatten = acc ++ (List.replicate (k + 1) its).flatten := by
      rw [List.replicate_succ, List.flatten_cons, List.append_assoc]
    rw [← e2, ← foldl_rep its k (acc ++ its), ← e, List.replicate_succ, List.foldl_cons]

section
variable {X : Cx} {pins : List (Addr × Obj)} {σ : St} {H : Hp} {s : Shared} {l b : Addr} {xs ys zs : List V}

/-! ### the two steps: a tracked list is rewritten, a new list is laid -/
theorem Inv.lset {its its' : List Value} {n : Nat} {f : Array Value → Array Value} {t' : Nat} (I : Inv X pins σ H s) (hH : H l = some (.lst xs))
    (e : s.heap.get? l = some { cls := .type "list", data := .seq its.toArray n }) (hf : f its.toArray = its'.toArray) (hv : Vals ys its') (hz : ys.length ≤ sizeLine) :
    Inv X pins σ (upd H l (.lst ys)) { s with heap := s.heap.update l (Obj.mapSeq f), toks := t' } := by
  have q := PySem.IsL.update e f
  rw [hf] at q
  refine I.write (x := l) (e := l) (by rw [hH]; exact trivial) (.inl rfl) (fun b' u hb hu => (Heap.get?_update_other s.heap (Obj.mapSeq f) (Ne.symm hb)).trans hu) ⟨_, q⟩ ?_
  exact ⟨hz, its', _, hv, q⟩
theorem Inv.lnew {its : List Value} {t' : Nat} (I : Inv X pins σ H s) (hv : Vals ys its) (hz : ys.length ≤ sizeLine) :
    Inv X pins σ (upd H s.heap.objs.size (.lst ys)) { s with heap := s.heap.push { cls := .type "list", data := .seq its.toArray }, toks := t' } :=
  I.laid (fun _ _ q => Heap.get?_push_of_some _ q) (Nat.le_refl _) ⟨hz, its, 0, hv, Heap.get?_push_size _ rfl⟩
theorem Inv.fresh (I : Inv X pins σ H s) : H s.heap.objs.size = none := I.hok.fresh (Nat.le_refl _)
theorem Inv.lstM (I : Inv X pins σ H s) (hH : H l = some (.lst xs)) : xs.length ≤ sizeLine ∧ ∃ (its : List Value) (n : Nat), Vals xs its ∧ xs.length = its.length ∧ s.heap.get? l = some { cls := .type "list", data := .seq its.toArray n } := by
  obtain ⟨z, its, n, r, e⟩ := I.hok l _ hH
  exact ⟨z, its, n, r, r.length, e⟩

theorem notLongL {n : Nat} (h : n ≤ sizeLine) : Builtin.List.listTooLong n = false := by
  unfold Builtin.List.listTooLong
  exact decide_eq_false (by omega)
end

section
variable {X : Cx}

/-! ### methods -/
def rAppend : V → List V → Hp → VK → Prop := fun x vs H Q => ∃ l xs y, x = .ref l ∧ vs = [y] ∧ H l = some (.lst xs) ∧ xs.length < sizeLine ∧ Q .non (upd H l (.lst (xs ++ [y])))
theorem mt_append : MtM X "list.append" rAppend := by
  intro pins s σ H x vs v us Q I rx rv h
  obtain ⟨l, xs, y, rfl, rfl, hH, hz, q⟩ := h
  cases rx
  obtain ⟨u, rfl, ru⟩ := rv.one
  obtain ⟨z, its, n, r, hl, e⟩ := I.lstM hH
  refine call_meets F.slot_list_append ⟨_, e, rfl⟩ F.entry_list_append (F.args_list_append_2 _ _) (PySem.list_append l its.toArray n u (by rw [List.size_toArray]; omega)) ⟨e, ?_⟩
  refine ⟨.non, _, I.lset (its' := its ++ [u]) hH e (by simp) (r.append (.cons ru .nil)) ?_, rfl, q⟩
  rw [List.length_append, List.length_singleton]
  omega

def rExtend : V → List V → Hp → VK → Prop := fun x vs H Q => ∃ l b xs zs, x = .ref l ∧ vs = [.ref b] ∧ H l = some (.lst xs) ∧ H b = some (.lst zs) ∧ xs.length + zs.length ≤ sizeLine ∧ Q .non (upd H l (.lst (xs ++ zs)))
theorem mt_extend : MtM X "list.extend" rExtend := by
  intro pins s σ H x vs v us Q I rx rv h
  obtain ⟨l, b, xs, zs, rfl, rfl, hH, hB, hz, q⟩ := h
  cases rx
  obtain ⟨u, rfl, ru⟩ := rv.one
  cases ru
  obtain ⟨z, its, n, r, hl, e⟩ := I.lstM hH
  obtain ⟨z2, its2, n2, r2, hl2, e2⟩ := I.lstM hB
  have hsz : its.toArray.size + its2.toArray.size ≤ sizeLine := by rw [List.size_toArray, List.size_toArray]; omega
  have hlong : ¬ (!its.toArray.isEmpty && Builtin.List.listTooLong (its.toArray.size + its2.toArray.size)) = true := by
    rw [notLongL hsz, Bool.and_false]
    exact Bool.false_ne_true
  refine call_meets F.slot_list_extend ⟨_, e, rfl⟩ F.entry_list_extend (F.args_list_extend_2 _ _)
    (AutoSeq1.list_extend_list_list_0 l its.toArray n b its2.toArray n2 hlong (by rw [List.size_toArray]; omega) (by omega)) ⟨e, e2, ?_⟩
  refine ⟨.non, _, I.lset (its' := its ++ its2) hH e (by simp) (r.append r2) ?_, rfl, q⟩
  rw [List.length_append]
  omega





/-! ### list + list, list += list, list * int -/
def rCat : R2 := fun x y H Q => ∃ l b xs zs, x = .ref l ∧ y = .ref b ∧ H l = some (.lst xs) ∧ H b = some (.lst zs) ∧ xs.length + zs.length ≤ sizeLine ∧ ∀ p, H p = none → Q (.ref p) (upd H p (.lst (xs ++ zs)))
theorem op_cat : OpR X (binaryOp .Add) rCat := by
  intro pins s σ H x y v u Q I rx ry h
  obtain ⟨l, b, xs, zs, rfl, rfl, hH, hB, hz, q⟩ := h
  cases rx
  cases ry
  obtain ⟨z, its, n, r, hl, e⟩ := I.lstM hH
  obtain ⟨z2, its2, n2, r2, hl2, e2⟩ := I.lstM hB
  refine PySem.P.add_list e e2 ?_ (by rw [List.size_toArray, List.size_toArray]; omega)
  have ea : its.toArray ++ its2.toArray = (its ++ its2).toArray := by simp
  rw [ea]
  exact ⟨.ref _, _, I.lnew (t' := s.toks) (r.append r2) (by rw [List.length_append]; omega), rfl, q _ I.fresh⟩
/-- a list times an int (a negative one is nothing) -/
def rRep : R2 := fun x y H Q => ∃ l k xs, x = .ref l ∧ y = .int k ∧ H l = some (.lst xs) ∧ -(2 ^ 63) ≤ k ∧ k < 2 ^ 63 ∧ xs.length * k.toNat ≤ sizeLine ∧
  ∀ p, H p = none → Q (.ref p) (upd H p (.lst (List.replicate k.toNat xs).flatten))
theorem len_rep {α : Type} (xs : List α) (k : Nat) : (List.replicate k xs).flatten.length = k * xs.length := by
  induction k with
  | zero => simp
  | succ k ih => rw [List.replicate_succ, List.flatten_cons, List.length_append, ih, Nat.succ_mul, Nat.add_comm]
theorem op_rep : OpR X (binaryOp .Mult) rRep := by
  intro pins s σ H x y v u Q I rx ry h
  obtain ⟨l, k, xs, rfl, rfl, hH, h1, h2, hz, q⟩ := h
  cases rx
  obtain ⟨t, rfl⟩ := ry
  obtain ⟨z, its, n, r, hl, e⟩ := I.lstM hH
  have hlen : its.toArray.size * k.toNat ≤ sizeLine := by rw [List.size_toArray, ← hl]; exact hz
  have hcap : ¬ its.toArray.size * k.toNat > (2 ^ 63 - 1) / 8 := by
    have : (sizeLine : Nat) ≤ (2 ^ 63 - 1) / 8 := by decide
    omega
  have hfit : ¬ (!Builtin.List.listFitsIndex k) = true := by
    rw [fitsIndex_both h1 h2]
    exact Bool.false_ne_true
  have hlong : ¬ Builtin.List.listTooLong (its.toArray.size * k.toNat) = true := by
    rw [notLongL hlen]
    exact Bool.false_ne_true
  have hnew : List.foldl (fun x1 x2 => x1 ++ x2) #[] (List.replicate (if its.toArray.isEmpty = true then 0 else k.toNat) its.toArray) = (List.replicate k.toNat its).flatten.toArray := by
    have f0 : ∀ m : Nat, List.foldl (fun x1 x2 => x1 ++ x2) #[] (List.replicate m its.toArray) = (List.replicate m its).flatten.toArray := fun m => by
      have := foldl_rep its m []
      rw [List.nil_append] at this
      exact this
    rw [f0]
    cases its with
    | nil => simp
    | cons a r' => rw [if_neg (by simp)]
  refine wpAny_binaryOp_repeat_ref (T := "list") (U := "int") (by decide) ⟨_, e, rfl⟩ (fun s' => typeIs_int s' k t) noFill_list_mul F.fills_int_mul F.slot_int_rmul repeat_list F.slot_int_index.lookup
    (call_meets F.slot_int_rmul (typeIs_int s k t) F.entry_int_rmul (F.args_int_rmul_2 _ _) (int___rmul___int_list k t l its.toArray n)
      ⟨e, rfl, ⟨_, e, rfl⟩, call_meets F.slot_list_mul ⟨_, e, rfl⟩ F.entry_list_mul (F.args_list_mul_2 _ _) (AutoListH.list___mul___list_int_3 l its.toArray n k t hfit hcap hlong) ⟨e, ?_⟩⟩)
  rw [hnew]
  exact ⟨.ref _, _, I.lnew (t' := s.toks) (r.rep k.toNat) (by rw [len_rep, Nat.mul_comm]; exact hz), rfl, q _ I.fresh⟩

/-! ### del xs[i] -/
end

/-! ### xs[a:b] = ys -/
section
variable {prog : Program} {w : World} {A : Around} {E : Value → Shared → Prop} {s : Shared}
end

section
variable {X : Cx}
end
end L2

namespace L2
open PySem PySem.Spec PyProof.Rows

theorem Vals.ints : ∀ {ns : List Int} {us : List Value}, Vals (ns.map V.int) us → IntsAre us ns
  | [], us, h => by
    rw [List.map_nil] at h
    cases h
    exact IntsAre.nil
  | n :: ns, us, h => by
    rw [List.map_cons] at h
    cases h with
    | cons r t =>
      obtain ⟨k, rfl⟩ := r
      exact IntsAre.cons n k (Vals.ints t)
theorem vals_of_ints : ∀ {us : List Value} {ns : List Int}, IntsAre us ns → Vals (ns.map V.int) us
  | _, _, .nil => by rw [List.map_nil]; exact Paired.nil
  | _, _, .cons n t h => by rw [List.map_cons]; exact Paired.cons (show RelV (V.int n) (Value.int n t) from ⟨t, rfl⟩) (vals_of_ints h)
theorem Vals.bls : ∀ {bs : List Bool} {us : List Value}, Vals (bs.map V.bl) us → us = bs.map Value.bool
  | [], us, h => by
    rw [List.map_nil] at h
    cases h
    rfl
  | b :: bs, us, h => by
    rw [List.map_cons] at h
    cases h with
    | cons r t =>
      cases r
      rw [Vals.bls t, List.map_cons]
theorem Vals.ref1 {a : Addr} {us : List Value} (r : Vals [V.ref a] us) : us = [Value.ref a] := by
  cases r with
  | cons r t =>
    cases t
    cases r
    rfl

/-! ### the library's walks over a list of ints, kept objects alone -/
section
variable {prog : Program} {w : World} {A : Around} {E : Value → Shared → Prop} {s : Shared} {l : Addr} {its : List Value} {ns : List Int} {Q : Value → Shared → Prop}
theorem min_raw (hh : A.handled = none) (hl : s.heap.IsList l its.toArray) (hi : IntsAre its ns) (hne : 0 < ns.length)
    (h : ∀ h' tk M t', (∀ b o, s.heap.get? b = some o → h'.get? b = some o) → M ∈ ns → (∀ a, a ∈ ns → M ≤ a) → Q (.int M t') { s with heap := h', toks := tk }) : wpAny (model prog w) A (call (.builtin "min") [.ref l]) Q E s := by
  obtain ⟨xs, e⟩ := hi.allInts.items
  have hn : numsOf (intItems xs).toList = ns := by rw [← e]; exact hi.numsOf
  rw [nums_intItems] at hn
  subst hn
  rw [e] at hl
  have hsz : 0 < xs.size := by simpa using hne
  refine PySem.min_intList hh hl hsz fun v h' tk hv hk => ?_
  obtain ⟨t, rfl⟩ := intItems_at hv
  obtain ⟨h1, h2⟩ := argBest_lt (numAt xs) (xs.size - 1)
  refine h h' tk _ t hk ?_ fun a ha => ?_
  · rw [numAt_eq]; exact PySem.getD_mem (by rw [List.length_map, Array.length_toList]; omega)
  · obtain ⟨j, hj, rfl⟩ := mem_getD ha
    rw [List.length_map, Array.length_toList] at hj
    rw [← numAt_eq]; exact h2 j (by omega)
end

/-! ### the calls, by values (CallR of 03t; MtR of 06l) -/
section
variable {X : Cx}
def rMin (K : PySem.W.Frag) : List V → Hp → VK → Prop := fun vs H Q => ∃ (a : Addr) (ns : List Int), vs = [V.ref a] ∧ SqL K H a (ns.map V.int) ∧ 0 < ns.length ∧ ∀ m, m ∈ ns → (∀ y, y ∈ ns → m ≤ y) → Q (.int m) H
theorem cr_min (hc : X.calm = true) : CallR X (.builtin "min") (rMin X.K) := by
  intro pins s σ H vs us Q I r h
  obtain ⟨a, ns, rfl, hs, hne, q⟩ := h
  obtain ⟨its, rv, hl, _⟩ := I.list hs
  rw [Vals.ref1 r]
  exact min_raw (I.ok.hd hc) hl.isList rv.ints hne fun h' tk m t' hk h1 h2 => ⟨.int _, H, I.kept hk, ⟨_, rfl⟩, q m h1 h2⟩

/-! sorted, sort (fewer than 64 items: the library's own bound) -/
theorem small64 {n : Nat} (h : n < 64) : n ≤ sizeLine := by rw [sizeLine_eq]; omega
end

end L2

namespace L2
open PySem PySem.Spec PyProof.Rows
abbrev CellAt (h : Heap) (c : Addr) (v : Option Value) : Prop := h.IsCell c v
def relS (scope sc : Scope) : Scope :=
  { scope with names := scope.names.map fun (n, k) => if (k == .free && sc.kind == .function && sc.names.lookup n == some .cell) then (n, .cell) else (n, k) }

def cloFrom (cells : List (Str × Addr)) : List (Str × NameKind) → List (Str × Addr) → List (Str × Addr)
  | [], acc => acc
  | (n, k) :: r, acc => if k == .free then cloFrom cells r ((n, (cells.lookup n).getD 0) :: acc) else cloFrom cells r acc

theorem closure_loop (env : Env) (f : Str × NameKind → List (Str × Addr) → Sem (ForInStep (List (Str × Addr))))
    (hf : ∀ n k c, f (n, k) c = if k == .free then (do let a ← cellOf env n; pure (.yield ((n, a) :: c))) else pure (.yield c)) :
    ∀ (names : List (Str × NameKind)) (acc : List (Str × Addr)), (∀ y ∈ names, y.2 = .free → ∃ c, env.cells.lookup y.1 = some c) → forIn names acc f = pure (cloFrom env.cells names acc)
  | [], acc, _ => by rw [List.forIn_nil]; rfl
  | (n, k) :: r, acc, h => by
    rw [List.forIn_cons, hf]
    have ih := fun acc => closure_loop env f hf r acc fun y hy => h y (List.mem_cons_of_mem _ hy)
    unfold cloFrom
    by_cases hk : (k == NameKind.free) = true
    · rw [if_pos hk, if_pos hk]
      obtain ⟨c, hc⟩ := h (n, k) List.mem_cons_self (by simpa using hk)
      have e : cellOf env n = pure c := by unfold cellOf; rw [hc]
      rw [e]
      have e2 : (env.cells.lookup n).getD 0 = c := by rw [hc]; rfl
      rw [e2]
      exact ih _
    · rw [if_neg hk, if_neg hk]
      exact ih _
theorem closure_ok {scope : Scope} {env : Env} (h : ∀ y ∈ scope.names, y.2 = .free → ∃ c, env.cells.lookup y.1 = some c) : closureFor scope env = pure (cloFrom env.cells scope.names []) := by
  simp only [closureFor]
  rw [closure_loop env _ (fun n k c => rfl) scope.names [] h]
  rfl

theorem mem_lookup {α : Type} : ∀ {l : List (Str × α)} {n : Str} {c : α}, (n, c) ∈ l → ∃ c', l.lookup n = some c'
  | (k, v) :: r, n, c, h => by
    rw [List.lookup_cons]
    cases hb : n == k with
    | true => exact ⟨_, rfl⟩
    | false =>
      rcases List.mem_cons.mp h with e | h
      · cases e; simp at hb
      · exact mem_lookup h

theorem cloFrom_mem {cells : List (Str × Addr)} : ∀ {names : List (Str × NameKind)} {acc : List (Str × Addr)} {n : Str} {c : Addr}, (n, c) ∈ cloFrom cells names acc → (n, c) ∈ acc ∨ ((n, .free) ∈ names ∧ c = (cells.lookup n).getD 0)
  | [], _, _, _, h => .inl h
  | (m, k) :: r, acc, n, c, h => by
    unfold cloFrom at h
    split at h
    · rename_i hk
      have hk : k = .free := by simpa using hk
      rcases cloFrom_mem h with h | ⟨h1, h2⟩
      · rcases List.mem_cons.mp h with e | h
        · cases e; exact .inr ⟨hk ▸ List.mem_cons_self, rfl⟩
        · exact .inl h
      · exact .inr ⟨List.mem_cons_of_mem _ h1, h2⟩
    · rcases cloFrom_mem h with h | ⟨h1, h2⟩
      · exact .inl h
      · exact .inr ⟨List.mem_cons_of_mem _ h1, h2⟩
theorem cloFrom_acc {cells : List (Str × Addr)} : ∀ {names : List (Str × NameKind)} {acc : List (Str × Addr)} {p : Str × Addr}, p ∈ acc → p ∈ cloFrom cells names acc
  | [], _, _, h => h
  | (m, k) :: r, acc, p, h => by
    unfold cloFrom
    split
    · exact cloFrom_acc (List.mem_cons_of_mem _ h)
    · exact cloFrom_acc h
theorem cloFrom_has {cells : List (Str × Addr)} : ∀ {names : List (Str × NameKind)} {acc : List (Str × Addr)} {n : Str}, (n, .free) ∈ names → (n, (cells.lookup n).getD 0) ∈ cloFrom cells names acc
  | (m, k) :: r, acc, n, h => by
    unfold cloFrom
    rcases List.mem_cons.mp h with e | h
    · cases e
      exact cloFrom_acc List.mem_cons_self
    · split
      · exact cloFrom_has h
      · exact cloFrom_has h

theorem cells_mem : ∀ {names : List (Str × NameKind)} {h : Heap} {acc : List (Str × Addr)} {x : Str} {c : Addr}, (x, c) ∈ cellsFrom h.objs.size names acc →
    (x, c) ∈ acc ∨ ((x, .cell) ∈ names ∧ h.objs.size ≤ c ∧ CellAt (pushCells h names) c none)
  | [], _, _, _, _, h => .inl h
  | (n, k) :: r, h, acc, x, c, hm => by
    unfold cellsFrom at hm
    unfold pushCells
    split at hm
    · rename_i hk
      rw [if_pos hk]
      have hk : k = .cell := by simpa using hk
      rw [← Heap.size_push h { cls := .type "cell", data := .cell none }] at hm
      rcases cells_mem hm with hm | ⟨h1, h2, h3⟩
      · rcases List.mem_cons.mp hm with e | hm
        · cases e
          exact .inr ⟨hk ▸ List.mem_cons_self, Nat.le_refl _, _, pushCells_keeps r _ _ _ (Heap.get?_push_size _ rfl), rfl⟩
        · exact .inl hm
      · rw [Heap.size_push] at h2
        exact .inr ⟨List.mem_cons_of_mem _ h1, Nat.le_of_succ_le h2, h3⟩
    · rename_i hk
      rw [if_neg hk]
      rcases cells_mem hm with hm | ⟨h1, h2, h3⟩
      · exact .inl hm
      · exact .inr ⟨List.mem_cons_of_mem _ h1, h2, h3⟩
theorem cells_acc : ∀ {names : List (Str × NameKind)} {n : Nat} {acc : List (Str × Addr)} {p : Str × Addr}, p ∈ acc → p ∈ cellsFrom n names acc
  | [], _, _, _, h => h
  | (m, k) :: r, n, acc, p, h => by
    unfold cellsFrom
    split
    · exact cells_acc (List.mem_cons_of_mem _ h)
    · exact cells_acc h
theorem cells_has : ∀ {names : List (Str × NameKind)} {n : Nat} {acc : List (Str × Addr)} {x : Str}, (x, .cell) ∈ names → ∃ c, (x, c) ∈ cellsFrom n names acc
  | (m, k) :: r, n, acc, x, h => by
    unfold cellsFrom
    rcases List.mem_cons.mp h with e | h
    · cases e
      exact ⟨n, cells_acc List.mem_cons_self⟩
    · split
      · exact cells_has h
      · exact cells_has h
theorem cells_inj : ∀ {names : List (Str × NameKind)} {h : Heap} {acc : List (Str × Addr)} {x y : Str} {c : Addr}, (∀ p ∈ acc, p.2 < h.objs.size) → (∀ x y c, (x, c) ∈ acc → (y, c) ∈ acc → x = y) →
    (x, c) ∈ cellsFrom h.objs.size names acc → (y, c) ∈ cellsFrom h.objs.size names acc → x = y
  | [], _, _, _, _, _, _, hi, h1, h2 => hi _ _ _ h1 h2
  | (n, k) :: r, h, acc, x, y, c, hl, hi, h1, h2 => by
    unfold cellsFrom at h1 h2
    split at h1
    · rename_i hk
      rw [if_pos hk] at h2
      rw [← Heap.size_push h { cls := .type "cell", data := .cell none }] at h1 h2
      refine cells_inj (h := h.push _) (fun p hp => ?_) (fun x y c a b => ?_) h1 h2
      · rw [Heap.size_push]
        rcases List.mem_cons.mp hp with rfl | hp
        · exact Nat.lt_succ_self _
        · exact Nat.lt_succ_of_lt (hl p hp)
      · rcases List.mem_cons.mp a with e | a <;> rcases List.mem_cons.mp b with e' | b
        · cases e; cases e'; rfl
        · cases e; exact absurd (hl _ b) (Nat.lt_irrefl _)
        · cases e'; exact absurd (hl _ a) (Nat.lt_irrefl _)
        · exact hi _ _ _ a b
    · rename_i hk
      rw [if_neg hk] at h2
      exact cells_inj hl hi h1 h2

theorem newEnv_comp {M : Model} {A : Around} {E : Value → Shared → Prop} {s : Shared} {scope : Scope} {globals : Addr} {closure : List (Str × Addr)} {qual : Str} {func : Option Addr} {code : Value} {around : Env} {builtins : Addr} {Q : Env → Shared → Prop}
    (h : Q (newEnv scope s.heap.objs.size globals (cellsFrom (s.heap.objs.size + 1) scope.names closure) qual func code (some around) builtins)
      { s with heap := pushCells (s.heap.push { cls := .type "dict", data := .dict #[] }) scope.names }) :
    wpAny M A (newFunctionEnv scope globals closure [] qual func code (some around) builtins) Q E s := by
  simp only [newFunctionEnv, Option.isSome_some, if_true]
  refine wpAny_bind (wpAny_alloc ?_)
  refine wpAny_bind (wpAny_layCells _ (fun n k c => rfl) scope.names closure _ _ ?_)
  rw [show ({ s with heap := s.heap.push { cls := .type "dict", data := .dict #[] } } : Shared).heap.objs.size = s.heap.objs.size + 1 from Heap.size_push ..]
  rw [List.forIn_nil]
  exact wpAny_bind (wpAny_pure (wpAny_pure h))

/-- every name of the written scope, in the scope that runs -/
theorem lookup_relS {sc : Scope} : ∀ {names : List (Str × NameKind)} {x : Str} {k : NameKind},
    (names.map fun (n, k) => if (k == NameKind.free && sc.kind == .function && sc.names.lookup n == some .cell) then (n, NameKind.cell) else (n, k)).lookup x = some k →
    ∃ k', names.lookup x = some k' ∧ (k = k' ∨ (k' = .free ∧ k = .cell))
  | [], _, _, h => by simp at h
  | (n, k₀) :: r, x, k, h => by
    have ih := @lookup_relS sc r x k
    have h' : List.lookup x ((if (k₀ == NameKind.free && sc.kind == .function && sc.names.lookup n == some .cell) = true then (n, NameKind.cell) else (n, k₀)) :: (r.map _)) = some k := h
    cases hx : x == n with
    | true =>
      simp only [List.lookup_cons, hx]
      by_cases hc : (k₀ == NameKind.free && sc.kind == .function && sc.names.lookup n == some .cell) = true
      · rw [if_pos hc] at h'
        simp only [List.lookup_cons, hx] at h'
        cases h'
        simp only [Bool.and_eq_true, beq_iff_eq] at hc
        exact ⟨k₀, rfl, .inr ⟨hc.1.1, rfl⟩⟩
      · rw [if_neg hc] at h'
        simp only [List.lookup_cons, hx] at h'
        cases h'
        exact ⟨_, rfl, .inl rfl⟩
    | false =>
      simp only [List.lookup_cons, hx]
      by_cases hc : (k₀ == NameKind.free && sc.kind == .function && sc.names.lookup n == some .cell) = true
      · rw [if_pos hc] at h'
        simp only [List.lookup_cons, hx] at h'
        exact ih h'
      · rw [if_neg hc] at h'
        simp only [List.lookup_cons, hx] at h'
        exact ih h'



/-- the names of a comprehension's block: its own (with their places in N), or captured -/
structure BlkOk (N : List Str) (sc scope : Scope) (own : List (Str × Nat)) : Prop where
  kind : scope.kind = .function
  uniq : ∀ y ∈ scope.names, scope.names.lookup y.1 = some y.2
  ix : ∀ p ∈ own, N[p.2]? = some p.1
  free : ∀ y ∈ scope.names, y.2 = .free → sc.names.lookup y.1 = some .cell ∨ sc.names.lookup y.1 = some .free
  own : ∀ y ∈ scope.names, y.2 = .local ∨ y.2 = .cell → y.1 ∈ own.map (·.1) ∨ y.1 ∉ N
/-- the slots of the block's own names forgotten -/
def wipe (σ : St) : List Nat → St
  | [] => σ
  | v :: vs => (wipe σ vs).set v none
theorem wipe_length (σ : St) : ∀ vs : List Nat, (wipe σ vs).length = σ.length
  | [] => rfl
  | v :: vs => by unfold wipe; rw [List.length_set, wipe_length σ vs]
theorem wipe_some {σ : St} {i : Nat} {x : V} : ∀ {vs : List Nat}, (wipe σ vs)[i]? = some (some x) → σ[i]? = some (some x) ∧ i ∉ vs
  | [], h => ⟨h, by simp⟩
  | v :: vs, h => by
    unfold wipe at h
    by_cases hi : v = i
    · subst hi
      by_cases hv : v < (wipe σ vs).length
      · rw [List.getElem?_set_self hv] at h; cases h
      · rw [List.getElem?_eq_none (by simpa using hv)] at h; cases h
    · rw [List.getElem?_set_ne hi] at h
      obtain ⟨h1, h2⟩ := wipe_some h
      exact ⟨h1, by simp only [List.mem_cons, not_or]; exact ⟨fun e => hi e.symm, h2⟩⟩

/-- the context of a block that starts at s, its iterator's objects at fp -/
abbrev Cx.blk (X : Cx) (s : Shared) (H : Hp) (scope : Scope) (cenv : Env) (fp : List Addr) : Cx := { X with s_0 := s, H_0 := H, env := cenv, outer := X.stack, ex := fp, fn := fun x => scope.names.lookup x == some .cell, pn := [], xe := fun _ _ => False }
section
variable {X : Cx} {pins : List (Addr × Obj)} {σ : St} {H : Hp} {s : Shared}
theorem block_start {scope : Scope} {own : List (Str × Nat)} {fp : List Addr} (I : Inv X pins σ H s) (ok : BlkOk X.N X.env.scope scope own) (hN : X.N.Nodup) (hfp : ∀ b ∈ fp, FpOk X pins H b ∧ b < s.heap.objs.size) :
    Inv (X.blk s H scope (compEnvC scope (cellsFrom (s.heap.objs.size + 1) scope.names (cloFrom X.env.cells scope.names [])) s.heap.objs.size X.env) fp) [] (wipe σ (own.map (·.2))) H { s with heap := pushCells (s.heap.push { cls := .type "dict", data := .dict #[] }) scope.names } := by
  have hfree : ∀ y ∈ scope.names, y.2 = .free → ∃ c, X.env.cells.lookup y.1 = some c := fun y hy e => by
    rcases ok.free y hy e with k | k
    · exact I.ok.has _ (.inl k)
    · exact I.ok.has _ (.inr k)
  generalize hcenv : compEnvC scope (cellsFrom (s.heap.objs.size + 1) scope.names (cloFrom X.env.cells scope.names [])) s.heap.objs.size X.env = cenv
  have kp : ∀ b o, s.heap.get? b = some o → (pushCells (s.heap.push { cls := .type "dict", data := .dict #[] }) scope.names).get? b = some o := fun b o e => pushCells_keeps _ _ _ _ (Heap.get?_push_of_some _ e)
  have hL : cenv.locals = s.heap.objs.size := by rw [← hcenv]; rfl
  have hcl : cenv.cells = cellsFrom (s.heap.objs.size + 1) scope.names (cloFrom X.env.cells scope.names []) := by rw [← hcenv]; rfl
  have hsc : cenv.scope = relS scope X.env.scope := by rw [← hcenv]; rfl
  rw [← Heap.size_push s.heap { cls := .type "dict", data := .dict #[] }] at hcl
  have cm : ∀ {y c}, (y, c) ∈ cloFrom X.env.cells scope.names [] → X.env.cells.lookup y = some c ∧ c < s.heap.objs.size := fun {y c} hm => by
    rcases cloFrom_mem hm with hm | ⟨h1, rfl⟩
    · cases hm
    · obtain ⟨c, hc⟩ := hfree _ h1 rfl
      rw [hc]
      obtain ⟨w, z⟩ := I.cell _ _ hc
      exact ⟨rfl, z.lt⟩
  have mem : ∀ {y c}, cenv.cells.lookup y = some c → (X.env.cells.lookup y = some c ∧ c < s.heap.objs.size) ∨ (s.heap.objs.size + 1 ≤ c ∧ CellAt (pushCells (s.heap.push { cls := .type "dict", data := .dict #[] }) scope.names) c none) := fun {y c} e => by
    rw [hcl] at e
    rcases cells_mem (PySem.mem_of_lookup e) with hm | ⟨_, h2, h3⟩
    · exact .inl (cm hm)
    · rw [Heap.size_push] at h2; exact .inr ⟨h2, h3⟩
  have look : ∀ {y}, scope.names.lookup y = some .free → ∃ c, cenv.cells.lookup y = some c ∧ X.env.cells.lookup y = some c := fun {y} hl => by
    have hy : (y, NameKind.free) ∈ scope.names := PySem.mem_of_lookup hl
    obtain ⟨c', e'⟩ := mem_lookup (cells_acc (names := scope.names) (n := (s.heap.push { cls := .type "dict", data := .dict #[] }).objs.size) (cloFrom_has (cells := X.env.cells) (acc := []) hy))
    rw [← hcl] at e'
    refine ⟨c', e', ?_⟩
    rw [hcl] at e'
    rcases cells_mem (PySem.mem_of_lookup e') with hm | ⟨h1, _, _⟩
    · exact (cm hm).1
    · have := ok.uniq _ h1
      rw [hl] at this; cases this
  have okB : (X.blk s H scope cenv fp).Ok := by
    refine ⟨I.ok.mod, by show cenv.scope.kind = _; rw [hsc]; exact ok.kind, by show cenv.globals = _; rw [← hcenv]; exact I.ok.glob, by show cenv.builtins = _; rw [← hcenv]; exact I.ok.blt, by show s.heap.objs.size ≤ cenv.locals; rw [hL]; exact Nat.le_refl _,
      fun y z c e1 e2 => ?_, fun y hy => ?_, fun y c z e => ?_, I.ok.hd, I.ok.frames, .inl rfl, fun b hb => ⟨?_, fun y c e z => ?_⟩, I.bs, Nat.le_trans I.ok.bsz I.sz, fun b o e hb => ?_, fun b hb z => ?_, I.stack, I.stkFree⟩
    · have e1 : cenv.cells.lookup y = some c := e1
      have e2 : cenv.cells.lookup z = some c := e2
      rw [hcl] at e1 e2
      refine cells_inj (fun p hp => ?_) (fun y z c a b => I.ok.inj y z c (cm a).1 (cm b).1) (PySem.mem_of_lookup e1) (PySem.mem_of_lookup e2)
      rw [Heap.size_push]
      exact Nat.lt_succ_of_lt (cm (y := p.1) (c := p.2) hp).2
    · show ∃ c, cenv.cells.lookup y = some c
      have key : ∀ k, cenv.kindOf y = some k → (k = .cell ∨ k = .free) → ∃ c, cenv.cells.lookup y = some c := fun k hk hk' => by
        unfold Env.kindOf at hk
        rw [hsc] at hk
        obtain ⟨k', e, r⟩ := lookup_relS hk
        have : k' = .cell ∨ k' = .free := by
          rcases r with rfl | ⟨rfl, _⟩
          · exact hk'
          · exact .inr rfl
        rcases this with rfl | rfl
        · obtain ⟨c, hm⟩ := cells_has (n := (s.heap.push { cls := .type "dict", data := .dict #[] }).objs.size) (acc := cloFrom X.env.cells scope.names []) (PySem.mem_of_lookup e)
          obtain ⟨c', e'⟩ := mem_lookup hm
          exact ⟨c', by rw [hcl]; exact e'⟩
        · obtain ⟨c, h1, _⟩ := look e
          exact ⟨c, h1⟩
      rcases hy with hy | hy
      · exact key _ hy (.inl rfl)
      · exact key _ hy (.inr rfl)
    · have z : (scope.names.lookup y == some NameKind.cell) = true := z
      have z : scope.names.lookup y = some .cell := by simpa using z
      have e : cenv.cells.lookup y = some c := e
      rw [hcl] at e
      rcases cells_mem (PySem.mem_of_lookup e) with hm | ⟨_, h2, _⟩
      · rcases cloFrom_mem hm with hm | ⟨h1, _⟩
        · cases hm
        · have q := ok.uniq _ h1
          rw [z] at q; cases q
      · rw [Heap.size_push] at h2
        exact Nat.le_of_succ_le h2
    · show b ≠ cenv.locals
      rw [hL]; exact Nat.ne_of_lt (hfp b hb).2
    · have e : cenv.cells.lookup y = some c := e
      rcases mem e with ⟨h1, _⟩ | ⟨h1, _⟩
      · exact (hfp b hb).1.2.2.2.2.1 y c h1 z
      · have h2 : s.heap.objs.size + 1 ≤ b := by rw [← z]; exact h1
        exact absurd (Nat.lt_of_lt_of_le (hfp b hb).2 (Nat.le_of_succ_le h2)) (Nat.lt_irrefl _)
    · rcases (hfp b hb).1.2.2.2.1 with z | z
      · exact I.ok.noex b o e z
      · exact absurd (Nat.lt_of_lt_of_le (Heap.lt_size e) (Nat.le_trans I.ok.bsz z)) (Nat.lt_irrefl _)
    · rcases List.mem_cons.mp (I.stkSub b z) with z | z
      · exact (hfp b hb).1.2.1 z
      · exact (hfp b hb).1.2.2.1 z
  refine ⟨okB, rfl, I.bare, Un.kept kp, ⟨fun _ => none, ?_, fun i y av e1 e2 e3 => ?_⟩, fun y c e => ?_, ?_, fun y c e => ?_, fun p hp => ?_, I.hok.kept kp, by rw [wipe_length]; exact I.len⟩
  · show Heap.Ns _ cenv.locals _
    rw [hL]
    exact Heap.Ns.keeps (Heap.Ns.new ..) fun b o e => pushCells_keeps _ _ _ _ e
  · obtain ⟨e2, hne⟩ := wipe_some e2
    have hfr : scope.names.lookup y = some .free ∧ (cenv.kindOf y = some .cell ∨ cenv.kindOf y = some .free) := by
      have key : ∀ k, cenv.scope.names.lookup y = some k → k = .local ∨ k = .cell ∨ k = .free → scope.names.lookup y = some .free ∧ (cenv.kindOf y = some .cell ∨ cenv.kindOf y = some .free) := fun k hk hk' => by
        have hk0 := hk
        rw [hsc] at hk
        obtain ⟨k', e, r⟩ := lookup_relS hk
        have no : ¬ (k' = .local ∨ k' = .cell) := fun hh => by
          rcases ok.own _ (PySem.mem_of_lookup e) hh with e' | e'
          · obtain ⟨p, hp, hpy⟩ := List.mem_map.mp e'
            have e3 := ok.ix p hp
            have : p.1 = y := hpy
            rw [this] at e3
            exact hne (List.mem_map.mpr ⟨p, hp, nodup_ix hN e3 e1⟩)
          · exact e' (List.mem_of_getElem? e1)
        rcases r with rfl | ⟨rfl, rfl⟩
        · rcases hk' with rfl | rfl | rfl
          · exact absurd (.inl rfl) no
          · exact absurd (.inr rfl) no
          · exact ⟨e, .inr hk0⟩
        · exact ⟨e, .inl hk0⟩
      have e3 : Vis cenv.scope y := e3
      rcases e3 with e3 | e3 | e3
      · exact key _ e3 (.inl rfl)
      · exact key _ e3 (.inr (.inl rfl))
      · exact key _ e3 (.inr (.inr rfl))
    obtain ⟨m, hn, hl⟩ := I.loc
    have hvis : Vis X.env.scope y := (ok.free _ (PySem.mem_of_lookup hfr.1) rfl).elim (fun k => .inr (.inl k)) (fun k => .inr (.inr k))
    obtain ⟨w, r, q⟩ := hl i y av e1 e2 hvis
    refine ⟨w, r, .inr ⟨hfr.2, ?_⟩⟩
    obtain ⟨c, h1, h2⟩ := look hfr.1
    rcases q with ⟨k, _⟩ | ⟨_, c', e', z⟩
    · have k : X.env.scope.names.lookup y = some .local := k
      rcases ok.free _ (PySem.mem_of_lookup hfr.1) rfl with k' | k' <;> rw [show X.env.scope.names.lookup y = _ from k'] at k <;> cases k
    · rw [h2] at e'; cases e'
      exact ⟨c, h1, z.keeps kp⟩
  · have e : cenv.cells.lookup y = some c := e
    rcases mem e with ⟨h1, _⟩ | ⟨_, z⟩
    · obtain ⟨w, z⟩ := I.cell y c h1
      exact ⟨w, z.keeps kp⟩
    · exact ⟨_, z⟩
  · show H cenv.locals = none
    rw [hL]; exact I.hok.fresh (Nat.le_refl _)
  · have e : cenv.cells.lookup y = some c := e
    rcases mem e with ⟨h1, _⟩ | ⟨h1, _⟩
    · exact I.freeC y c h1
    · exact I.hok.fresh (Nat.le_of_succ_le h1)
  · exact absurd (show p ∈ ([] : List (Addr × Obj)) ++ [] from hp) (by simp)

/-- an item appended to a tracked list -/
theorem app_ok {E : Value → Shared → Prop} {D : Addr} {xs : List V} {y : V} {v : Value} {Q : Value → Shared → Prop} (I : Inv X pins σ H s) (hD : H D = some (.lst xs)) (hz : xs.length < sizeLine) (r : RelV y v)
    (h : ∀ s', Inv X pins σ (upd H D (.lst (xs ++ [y]))) s' → Q .none s') : wpAny (model X.prog X.w) X.A (call (.builtin "list.append") [.ref D, v]) Q E s := by
  obtain ⟨hz', its, n, ri, e⟩ := I.hok D _ hD
  have hl := ri.length
  refine append_at (hsz := by rw [List.size_toArray]; omega) e fun h' sb ho' => ?_
  refine h { s with heap := h' } (I.write (t' := s.toks) (by rw [hD]; trivial) (.inl rfl) (fun b u hb q => (sb.2 b hb).trans q) ⟨_, ho'⟩ ⟨by rw [List.length_append]; exact hz, its ++ [v], n + 1, ri.append (.cons r .nil), ?_⟩)
  rw [ho']
  simp

/-- a clause's tests -/
def PTs (X : Cx) (ifs : List Expr) (t : TT) : Prop :=
  ∀ (pins : List (Addr × Obj)) (s : Shared) (σ : St) (H : Hp) (Q : Bool → Hp → Prop), Inv X pins σ H s → t σ H Q →
    wpAny (model X.prog X.w) X.A (forIn ifs true fun c r => if r = true then do let ok ← isTrue c X.env (eval c X.env); pure (ForInStep.yield ok) else pure (ForInStep.yield r)) (TP X pins σ Q) X.xe s
def tYes : TT := fun _ H Q => Q true H
theorem pts_nil : PTs X [] tYes := fun _ _ _ H _ I h => wpAny_tests_nil ⟨H, I, h⟩
theorem pts_one {c : Expr} {t : TT} (h : PT X c t) : PTs X [c] t := fun pins s σ H Q I hw => wpAny_tests_one (h pins s σ H Q I hw)
end

theorem thnF {α : Type} {t : Sem α} {Q Q' : α → Shared → Prop} {M : Model} {A : Around} {E : Value → Shared → Prop} {s : Shared} (h : wpAny M A t Q (fun _ _ => False) s) (hQ : ∀ a s, Q a s → Q' a s) : wpAny M A t Q' E s := wpAny_mono h hQ fun _ _ z => False.elim z

/-- the loop of a list comprehension's block, the target of any form (codeAny_compLoop_tests asks a target that no tuple goes to; statement and proof follow it, PyProof/CompMap.lean:41-61, with the step letOwnedTupleGo kept) -/
theorem compLoop_any {prog : Program} {w : World} {A : Around} {R : Result → Shared → Prop} {s : Shared} {elt target iter : Expr} {ifs : List Expr} {scope : Scope} {pos : Pos} {it acc : Value} {env : Env} (I : Nat → Shared → Prop)
    (turn : ∀ n s, I n s → wpAny (model prog w) A (pyNext it) (fun r s₁ => match r with
      | none => R (.ok .next) s₁
      | some v => wpAny (model prog w) A (letOwnedTupleGo target it v) (fun _ s₁' => wpAny (model prog w) A (assign target env v) (fun _ s₂ =>
          wpAny (model prog w) A (forIn ifs true fun c r => if r = true then do let ok ← isTrue c env (eval c env); pure (ForInStep.yield ok) else pure (ForInStep.yield r)) (fun ok s₃ =>
            if ok = true then wpAny (model prog w) A (eval elt env) (fun x s₄ =>
              wpAny (model prog w) A (call (.builtin "list.append") [acc, x]) (fun _ s₅ => ∃ m, m < n ∧ I m s₅) (notedBy (model prog w) A env fun e s' => R (.error e) s') s₄) (notedBy (model prog w) A env fun e s' => R (.error e) s') s₃
            else ∃ m, m < n ∧ I m s₃) (notedBy (model prog w) A env fun e s' => R (.error e) s') s₂) (notedBy (model prog w) A env fun e s' => R (.error e) s') s₁') (notedBy (model prog w) A env fun e s' => R (.error e) s') s₁) (notedBy (model prog w) A env fun e s' => R (.error e) s') s)
    (n : Nat) (h : I n s) :
    codeAny (model prog w) A (.compLoop (.ListComp elt [⟨target, iter, ifs, 0⟩] scope pos) 0 it acc env) R s := by
  refine codeAny_loop rfl I (fun n s hI => ?_) n h
  show wpAny _ A ((compTurn (.ListComp elt [⟨target, iter, ifs, 0⟩] scope pos) 0 it acc env).onRaise (fun x => do noteFrame x env; theTreesLotGoes x)) _ _ s
  refine wpAny_noted ?_
  rw [compTurn_list]
  refine wpAny_bind (wpAny_standAt (wpAny_bind (wpAny_mono (turn n s hI) (fun r s₁ h₁ => ?_) fun _ _ h' => h')))
  cases r with
  | none => exact wpAny_pure h₁
  | some v =>
    refine wpAny_bind (wpAny_mono h₁ (fun _ s₁' h₁' => ?_) fun _ _ h' => h')
    refine wpAny_bind (wpAny_mono h₁' (fun _ s₂ h₂ => wpAny_bind (wpAny_mono h₂ (fun ok s₃ h₃ => ?_) fun _ _ h' => h')) fun _ _ h' => h')
    cases ok with
    | false => exact wpAny_pure ⟨rfl, h₃⟩
    | true =>
      exact wpAny_bind (wpAny_bind (wpAny_mono h₃ (fun x s₄ h₄ => wpAny_bind (wpAny_mono h₄ (fun _ s₅ h₅ => wpAny_pure (wpAny_pure ⟨rfl, h₅⟩)) fun _ _ h' => h')) fun _ _ h' => h'))

section
variable {X : Cx}
/-- [elt for target in iter if ..]: D the new list; W by the turn and a measure, Nx what a turn is to reach -/
def tLc (wi : TI) (g : TG) (tt : TT) (te : TE) (vs : List Nat) : TE := fun σ H Q => wi σ H fun J H1 => ∀ D, H1 D = none → ∃ W : Nat → Nat → Hp → Prop, (∃ m, W 0 m (upd H1 D (.lst []))) ∧ ∀ i m H, W i m H →
  (J.stop i H ∧ Q (.ref D) H) ∨ (J.go i H ∧ ∃ Nx : Hp → Prop, (∀ H', Nx H' → ∃ m', m' < m ∧ W (i + 1) m' H') ∧ ∀ x H', J.yld i H x H' → g x (wipe σ vs) H' fun σ2 H2 => wipe σ2 vs = wipe σ vs ∧ tt σ2 H2 fun b H3 =>
    if b = true then te σ2 H3 fun y H4 => ∃ acc, H4 D = some (.lst acc) ∧ acc.length < sizeLine ∧ Nx (upd H4 D (.lst (acc ++ [y]))) else Nx H3)
theorem lc_core {pins : List (Addr × Obj)} {s : Shared} {σ : St} {H : Hp} {Q : VK} {elt tg iter : Expr} {ifs : List Expr} {scope : Scope} {own : List (Str × Nat)} {pos pos' : Pos} {wi : TI} {g : TG} {tt : TT} {te : TE} {use : Option (Value → Sem Unit)} {Qf : Value → Shared → Prop}
    (hc : X.calm = true) (hN : X.N.Nodup) (I : Inv X pins σ H s) (hi : PI X tg iter wi) (ok : BlkOk X.N X.env.scope scope own)
    (hg : ∀ (s : Shared) (H : Hp) (C : Addr) (cl : List (Str × Addr)) (fp : List Addr), PG (X.blk s H scope (compEnvC scope cl C X.env) fp) tg g) (ht : ∀ (s : Shared) (H : Hp) (C : Addr) (cl : List (Str × Addr)) (fp : List Addr), PTs (X.blk s H scope (compEnvC scope cl C X.env) fp) ifs tt)
    (he : ∀ (s : Shared) (H : Hp) (C : Addr) (cl : List (Str × Addr)) (fp : List Addr), PE (X.blk s H scope (compEnvC scope cl C X.env) fp) elt te) (hs : ∀ x, foldedSetIterable iter X.env x = pure x)
    (h : tLc wi g tt te (own.map (·.2)) σ H Q)
    (hRR : ∀ D C s' m H', Inv X pins σ H' s' → Q (.ref D) H' → s'.heap.Ns C m → FpOk X pins H' C → compPost (model X.prog X.w) X.A X.xe use Qf (.ref D) C (.ok .next) s') :
    wpAny (model X.prog X.w) X.A (comprehension (.ListComp elt [⟨tg, iter, ifs, 0⟩] scope pos) scope X.env pos' (newList []) false (eval iter X.env) use) Qf X.xe s := by
  have hfree : ∀ y ∈ scope.names, y.2 = .free → ∃ c, X.env.cells.lookup y.1 = some c := fun y hy e => by
    rcases ok.free y hy e with k | k
    · exact I.ok.has _ (.inl k)
    · exact I.ok.has _ (.inr k)
  refine wpAny_comprehension_free (use := use) rfl hs (closure_ok hfree) ok.kind (fun y hy e => by rw [ok.uniq y hy, e])
    (thn (hi pins s σ H _ I h) fun xv s1 hx => thn hx fun itv s2 h2 => ?_)
  obtain ⟨it, fp, tn, J, H2, e, I2, T, st2, f2, q⟩ := h2
  subst e
  refine wpAny_newObj_type (newEnv_comp ?_) (by show 0 ≤ sizeLine; decide)
  generalize hD : s2.heap.objs.size = D
  have hDn : H2 D = none := I2.hok.fresh (Nat.le_of_eq hD)
  obtain ⟨W, ⟨m0, w0⟩, turn⟩ := q D hDn
  -- the new list
  generalize hs3 : ({ s2 with heap := s2.heap.push { cls := .type "list", data := .seq ([] : List Value).toArray } } : Shared) = s3
  have I3 : Inv X pins σ (upd H2 D (.lst [])) s3 := by
    rw [← hs3]
    refine I2.laid (t' := s2.toks) (fun b o e => Heap.get?_push_of_some _ e) (Nat.le_of_eq hD) ⟨Nat.zero_le _, [], 0, .nil, ?_⟩
    rw [← hD]
    exact Heap.get?_push_size _ rfl
  have h3 : s3.heap = s2.heap.push { cls := .type "list", data := .seq ([] : List Value).toArray } := by rw [← hs3]
  have sz : ∀ b ∈ fp, b < s2.heap.objs.size := fun b hb => by
    obtain ⟨o, e, _⟩ := T.obj _ _ st2 b hb
    exact Heap.lt_size e
  have f3 : ∀ b ∈ fp, FpOk X pins (upd H2 D (.lst [])) b ∧ b < s3.heap.objs.size := fun b hb => by
    have hlt := sz b hb
    refine ⟨⟨?_, (f2 b hb).2⟩, by rw [h3, Heap.size_push]; exact Nat.lt_succ_of_lt hlt⟩
    rw [upd_ne (by rw [← hD]; exact Nat.ne_of_lt hlt)]
    exact (f2 b hb).1
  have st3 : tn 0 s3.heap := T.keep _ _ _ st2 fun b _ o e => by rw [h3]; exact Heap.get?_push_of_some _ e
  have I4 := block_start I3 ok hN f3
  have pg := hg s3 (upd H2 D (.lst [])) s3.heap.objs.size (cellsFrom (s3.heap.objs.size + 1) scope.names (cloFrom X.env.cells scope.names [])) fp
  have pt := ht s3 (upd H2 D (.lst [])) s3.heap.objs.size (cellsFrom (s3.heap.objs.size + 1) scope.names (cloFrom X.env.cells scope.names [])) fp
  have pe := he s3 (upd H2 D (.lst [])) s3.heap.objs.size (cellsFrom (s3.heap.objs.size + 1) scope.names (cloFrom X.env.cells scope.names [])) fp
  show codeAny _ _ (.compStart (.ListComp elt [⟨tg, iter, ifs, 0⟩] scope pos) 0 (.ref it) (.ref D) (compEnvC scope (cellsFrom (s3.heap.objs.size + 1) scope.names (cloFrom X.env.cells scope.names [])) s3.heap.objs.size X.env)) (compPost (model X.prog X.w) X.A X.xe use Qf (.ref D) s3.heap.objs.size) { s3 with heap := pushCells (s3.heap.push { cls := .type "dict", data := .dict #[] }) scope.names }
  have nfp : ∀ b ∈ fp, (upd H2 D (.lst [])) b = none := fun b hb => (f3 b hb).1.1
  generalize hce : compEnvC scope (cellsFrom (s3.heap.objs.size + 1) scope.names (cloFrom X.env.cells scope.names [])) s3.heap.objs.size X.env = ce at I4 pg pt pe ⊢
  have cL : ce.locals = s3.heap.objs.size := by subst hce; rfl
  generalize hH3 : upd H2 D (.lst []) = H3 at I3 I4 pg pt pe w0 nfp f3
  generalize hs4 : ({ s3 with heap := pushCells (s3.heap.push { cls := .type "dict", data := .dict #[] }) scope.names } : Shared) = s4 at I4 ⊢
  have st4 : tn 0 s4.heap := T.keep _ _ _ st3 fun b _ o e => by rw [← hs4]; exact pushCells_keeps _ _ _ _ (Heap.get?_push_of_some _ e)
  have stat : ∀ {σ' : St} {H' : Hp} {s' : Shared}, Inv (X.blk s3 H3 scope ce fp) [] σ' H' s' → (∀ b ∈ fp, H' b = none) → ∀ b ∈ fp, FpOk (X.blk s3 H3 scope ce fp) [] H' b := fun {σ' H' s'} I' hn b hb =>
    ⟨hn b hb, (I'.ok.exf b hb).1, I'.ok.exfs b hb, .inl hb, fun x c e => (I'.ok.exf b hb).2 x c e, fun p hp => absurd (show p ∈ ([] : List (Addr × Obj)) ++ [] from hp) (by simp)⟩
  have loop : codeAny (model X.prog X.w) X.A (.compLoop (.ListComp elt [⟨tg, iter, ifs, 0⟩] scope pos) 0 (.ref it) (.ref D) ce) (compPost (model X.prog X.w) X.A X.xe use Qf (.ref D) s3.heap.objs.size) s4 := by
    refine compLoop_any (fun n s' => ∃ i H', Inv (X.blk s3 H3 scope ce fp) [] (wipe σ (own.map (·.2))) H' s' ∧ tn i s'.heap ∧ (∀ b ∈ fp, H' b = none) ∧ W i n H') ?_ m0 ⟨0, H3, I4, st4, nfp, w0⟩
    rintro n s5 ⟨i, H5, I5, st5, n5, w5⟩
    rcases turn i n H5 w5 with ⟨stop, qq⟩ | ⟨go, Nx, hNx, step⟩
    · have td := T.done (X.blk s3 H3 scope ce fp) rfl rfl rfl hc i [] s5 _ H5 (fun _ _ => False) I5 (stat I5 n5) st5 stop
      refine thnF td fun r s6 ⟨hr, I6⟩ => ?_
      subst hr
      -- back in the def's context
      have I7 : Inv X pins σ H5 s6 := I3.call' (ch := fp) I6.os I6.base I6.hok I6.bare fun b hb => ⟨(f3 b hb).1.2.2.2.1, (f3 b hb).1.2.1, (f3 b hb).1.2.2.2.2.1, (f3 b hb).1.2.2.2.2.2⟩
      have nC : H5 s3.heap.objs.size = none := by
        have z : H5 ce.locals = none := I6.free
        rw [cL] at z
        exact z
      obtain ⟨m, hn, _⟩ := I6.loc
      have hn : s6.heap.Ns ce.locals m := hn
      rw [cL] at hn
      exact hRR D s3.heap.objs.size s6 m H5 I7 qq hn (I3.fpOk (Nat.le_refl _) nC)
    · have ti := T.item (X.blk s3 H3 scope ce fp) rfl rfl rfl hc i [] s5 _ H5 (fun _ _ => False) I5 (stat I5 n5) st5 go
      refine thnF ti fun r s6 ⟨u, hr, h6⟩ => ?_
      subst hr
      refine thnF h6 fun _ s7 ⟨x, H7, I7, r7, y7, st7, n7⟩ => ?_
      have I7' := I7.pinned (stat I7 n7) (T.obj _ _ st7)
      refine thnF (pg _ s7 _ H7 x u _ I7' r7 (step x H7 y7)) fun _ s8 ⟨σ8, H8, I8, hw8, q8⟩ => ?_
      refine thnF (pt _ s8 σ8 H8 _ I8 q8) fun b s9 ⟨H9, I9, q9⟩ => ?_
      -- the turn's end
      have fin : ∀ {s' : Shared} {H' : Hp}, Inv (X.blk s3 H3 scope ce fp) ([] ++ pinsAt fp s7.heap) σ8 H' s' → Nx H' → ∃ m, m < n ∧ ∃ i H', Inv (X.blk s3 H3 scope ce fp) [] (wipe σ (own.map (·.2))) H' s' ∧ tn i s'.heap ∧ (∀ b ∈ fp, H' b = none) ∧ W i m H' := fun {s' H'} I' nx => by
        obtain ⟨m', hm, w'⟩ := hNx H' nx
        have pin' : ∀ b ∈ fp, ∀ o, s7.heap.get? b = some o → s'.heap.get? b = some o ∧ H' b = none := fun b hb o e =>
          let z := I'.pin (b, o) (List.mem_append_right _ (List.mem_append_right _ (mem_pinsAt hb e)))
          ⟨z.1, z.2.1⟩
        have hl : (wipe σ (own.map (·.2))).length = σ8.length := by rw [← hw8, wipe_length]
        refine ⟨m', hm, i + 1, H', (I'.unpinned (pins := [])).weak hl (fun j v e => ?_), T.keep _ _ _ st7 fun b hb o e => (pin' b hb o e).1, fun b hb => ?_, w'⟩
        · rw [← hw8] at e
          exact (wipe_some e).1
        · obtain ⟨o, e, _⟩ := T.obj _ _ st7 b hb
          exact (pin' b hb o e).2
      cases b with
      | false =>
        simp only [Bool.false_eq_true, if_false] at q9 ⊢
        exact fin I9 q9
      | true =>
        simp only [if_true] at q9 ⊢
        refine thnF (pe _ s9 σ8 H9 _ I9 q9) fun z s10 ⟨yv, H10, I10, r10, acc, hD10, hz10, nx⟩ => ?_
        exact app_ok (X := X.blk s3 H3 scope ce fp) I10 hD10 hz10 r10 fun s11 I11 => fin I11 nx
  exact codeAny_compStart_list loop (T.self X.A 0 _ _ _ st4 loop)
/-- as a value -/
theorem pe_lc {elt tg iter : Expr} {ifs : List Expr} {scope : Scope} {own : List (Str × Nat)} {pos : Pos} {wi : TI} {g : TG} {tt : TT} {te : TE} (hc : X.calm = true) (hN : X.N.Nodup) (hi : PI X tg iter wi) (ok : BlkOk X.N X.env.scope scope own)
    (hg : ∀ (s : Shared) (H : Hp) (C : Addr) (cl : List (Str × Addr)) (fp : List Addr), PG (X.blk s H scope (compEnvC scope cl C X.env) fp) tg g) (ht : ∀ (s : Shared) (H : Hp) (C : Addr) (cl : List (Str × Addr)) (fp : List Addr), PTs (X.blk s H scope (compEnvC scope cl C X.env) fp) ifs tt)
    (he : ∀ (s : Shared) (H : Hp) (C : Addr) (cl : List (Str × Addr)) (fp : List Addr), PE (X.blk s H scope (compEnvC scope cl C X.env) fp) elt te) (hs : ∀ x, foldedSetIterable iter X.env x = pure x := by intro _; rfl) :
    PE X (.ListComp elt [⟨tg, iter, ifs, 0⟩] scope pos) (tLc wi g tt te (own.map (·.2))) := by
  intro pins s σ H Q I h
  rw [eval_ListComp]
  refine lc_core hc hN I hi ok hg ht he hs h fun D C s' m H' I' q hn f => ⟨m, hn, fun h'' sb => ?_⟩
  obtain ⟨f0, f1, f2, f3, f4, f5⟩ := f
  exact ⟨.ref D, H', I'.turned (t' := s'.toks) (fun b o hb e => (sb.2 b hb).trans e) f0 f1 f3 f4 f5, rfl, q⟩
/-- name = [..] on one line, the name a local -/
theorem ps_setLc {i : Nat} {y : Str} {py : Pos} {elt tg iter : Expr} {ifs : List Expr} {scope : Scope} {own : List (Str × Nat)} {pos spos : Pos} {wi : TI} {g : TG} {tt : TT} {te : TE} (hc : X.calm = true) (hN : X.N.Nodup) (hy : X.N[i]? = some y) (hyl : X.env.scope.names.lookup y = some .local)
    (hsw : swapsWith (.ListComp elt [⟨tg, iter, ifs, 0⟩] scope pos) (some (.Name y py)) spos.line X.env = pure true) (hi : PI X tg iter wi) (ok : BlkOk X.N X.env.scope scope own)
    (hg : ∀ (s : Shared) (H : Hp) (C : Addr) (cl : List (Str × Addr)) (fp : List Addr), PG (X.blk s H scope (compEnvC scope cl C X.env) fp) tg g) (ht : ∀ (s : Shared) (H : Hp) (C : Addr) (cl : List (Str × Addr)) (fp : List Addr), PTs (X.blk s H scope (compEnvC scope cl C X.env) fp) ifs tt)
    (he : ∀ (s : Shared) (H : Hp) (C : Addr) (cl : List (Str × Addr)) (fp : List Addr), PE (X.blk s H scope (compEnvC scope cl C X.env) fp) elt te) (hs : ∀ x, foldedSetIterable iter X.env x = pure x := by intro _; rfl) :
    PS X (.Assign [.Name y py] (.ListComp elt [⟨tg, iter, ifs, 0⟩] scope pos) spos) (tAsg (tLc wi g tt te (own.map (·.2))) (gName i)) := by
  intro pins s σ H D I h
  rw [exec_Assign_Name_used _ _ _ _ hsw]
  refine wpAny_bind (wpAny_standAt (wpAny_bind ?_))
  show wpAny _ X.A (do let _ ← comprehension (.ListComp elt [⟨tg, iter, ifs, 0⟩] scope pos) scope X.env (firstIterPos [⟨tg, iter, ifs, 0⟩] pos) (newList []) false (eval iter X.env) (some (assign (.Name y py) X.env))) _ _ s
  have h : tLc wi g tt te (own.map (·.2)) σ H (fun x H1 => gName i x σ H1 D.nx) := h
  refine wpAny_bind (thn (lc_core (Qf := fun _ s' => SP X pins D .next s') hc hN I hi ok hg ht he hs h fun L C s' m H' I' q hn f => ?_) fun _ s' hq => wpAny_pure (wpAny_pure hq))
  show wpAny _ _ (assign (.Name y py) X.env (.ref L)) _ _ _
  refine wpAny_assign_Name (store_ok2 (v := V.ref L) I' hN hy (.inl hyl) rfl (fun s2 I2 ⟨a, sb, ha⟩ => ?_) (.inr hyl))
  obtain ⟨f0, f1, f2, f3, f4, f5⟩ := f
  have haC : C ≠ a := by
    rcases ha with z | z
    · rw [z]; exact f1
    · exact fun e => f4 y a z e.symm
  refine ⟨m, hn.sameBut sb haC, fun h3 sb3 => ?_⟩
  exact ⟨_, H', I2.turned (t' := s2.toks) (fun b o hb e => (sb3.2 b hb).trans e) f0 f1 f3 f4 f5, q⟩
theorem sw_true {elt : Expr} {gs : List Comprehension} {scope : Scope} {pos py : Pos} {y : Str} {l : Nat} {env : Env} (hk : env.scope.kind = .function) (hy : env.scope.names.lookup y = some .local) (hl : (py.line == pos.line) = true)
    (ha : (scope.names.any fun (n, k) => n == y && (k == .local || k == .cell)) = false) : swapsWith (.ListComp elt gs scope pos) (some (.Name y py)) l env = pure true := by
  have ky : env.kindOf y = some .local := hy
  have hb : env.blockKind = .function := by unfold Env.blockKind; rw [hk]; rfl
  unfold swapsWith
  simp only [hb, ky, ha, Expr.pos, hl]
  rfl
end

/-! ### the forms one uses -/
/-- over a range: Pv by the turn and the heap (the new list at D within) -/
theorem lc_range {lo : Int} {n : Nat} {g : TG} {tt : TT} {te : TE} {vs : List Nat} {σ : St} {H1 : Hp} {D : Addr} {Qd : Hp → Prop} (Pv : Nat → Hp → Prop) (h0 : Pv 0 (upd H1 D (.lst [])))
    (hs : ∀ i H, i < n → Pv i H → g (.int (lo + i)) (wipe σ vs) H fun σ2 H2 => wipe σ2 vs = wipe σ vs ∧ tt σ2 H2 fun b H3 =>
      if b = true then te σ2 H3 fun y H4 => ∃ acc, H4 D = some (.lst acc) ∧ acc.length < sizeLine ∧ Pv (i + 1) (upd H4 D (.lst (acc ++ [y]))) else Pv (i + 1) H3) (hd : ∀ H, Pv n H → Qd H) :
    ∃ W : Nat → Nat → Hp → Prop, (∃ m, W 0 m (upd H1 D (.lst []))) ∧ ∀ i m H, W i m H →
      ((Itr lo n).stop i H ∧ Qd H) ∨ ((Itr lo n).go i H ∧ ∃ Nx : Hp → Prop, (∀ H', Nx H' → ∃ m', m' < m ∧ W (i + 1) m' H') ∧ ∀ x H', (Itr lo n).yld i H x H' → g x (wipe σ vs) H' fun σ2 H2 => wipe σ2 vs = wipe σ vs ∧ tt σ2 H2 fun b H3 =>
        if b = true then te σ2 H3 fun y H4 => ∃ acc, H4 D = some (.lst acc) ∧ acc.length < sizeLine ∧ Nx (upd H4 D (.lst (acc ++ [y]))) else Nx H3) := by
  refine ⟨fun i m H => m = n - i ∧ i ≤ n ∧ Pv i H, ⟨n, by simp, Nat.zero_le _, h0⟩, ?_⟩
  rintro i m H ⟨rfl, hi, p⟩
  by_cases hlt : i < n
  · refine .inr ⟨hlt, Pv (i + 1), fun H' p' => ⟨n - (i + 1), by omega, rfl, hlt, p'⟩, fun x H' y => ?_⟩
    obtain ⟨e, y⟩ := y
    subst e y
    exact hs i _ hlt p
  · have e : i = n := by omega
    subst e
    exact .inl ⟨Nat.le_refl _, hd H p⟩
/-- over a list that the block leaves as it is -/
theorem lc_list {K : PySem.W.Frag} {a : Addr} {xs : List V} {g : TG} {tt : TT} {te : TE} {vs : List Nat} {σ : St} {H1 : Hp} {D : Addr} {Qd : Hp → Prop} (Pv : Nat → Hp → Prop) (h0 : Pv 0 (upd H1 D (.lst []))) (hl : ∀ i H, i ≤ xs.length → Pv i H → SqL K H a xs)
    (hs : ∀ i x H, xs[i]? = some x → Pv i H → g x (wipe σ vs) H fun σ2 H2 => wipe σ2 vs = wipe σ vs ∧ tt σ2 H2 fun b H3 =>
      if b = true then te σ2 H3 fun y H4 => ∃ acc, H4 D = some (.lst acc) ∧ acc.length < sizeLine ∧ Pv (i + 1) (upd H4 D (.lst (acc ++ [y]))) else Pv (i + 1) H3) (hd : ∀ H, Pv xs.length H → Qd H) :
    ∃ W : Nat → Nat → Hp → Prop, (∃ m, W 0 m (upd H1 D (.lst []))) ∧ ∀ i m H, W i m H →
      ((Itl K a).stop i H ∧ Qd H) ∨ ((Itl K a).go i H ∧ ∃ Nx : Hp → Prop, (∀ H', Nx H' → ∃ m', m' < m ∧ W (i + 1) m' H') ∧ ∀ x H', (Itl K a).yld i H x H' → g x (wipe σ vs) H' fun σ2 H2 => wipe σ2 vs = wipe σ vs ∧ tt σ2 H2 fun b H3 =>
        if b = true then te σ2 H3 fun y H4 => ∃ acc, H4 D = some (.lst acc) ∧ acc.length < sizeLine ∧ Nx (upd H4 D (.lst (acc ++ [y]))) else Nx H3) := by
  refine ⟨fun i m H => m = xs.length - i ∧ i ≤ xs.length ∧ Pv i H, ⟨xs.length, by simp, Nat.zero_le _, h0⟩, ?_⟩
  rintro i m H ⟨rfl, hi, p⟩
  have q := hl i H hi p
  by_cases hlt : i < xs.length
  · refine .inr ⟨⟨xs, xs[i], q, by simp [hlt]⟩, Pv (i + 1), fun H' p' => ⟨xs.length - (i + 1), by omega, rfl, hlt, p'⟩, fun x H' y => ?_⟩
    obtain ⟨e, y⟩ := y
    subst e
    exact hs i x _ (y xs q) p
  · have e : i = xs.length := by omega
    subst e
    exact .inl ⟨⟨xs, q, Nat.le_refl _⟩, hd H p⟩
def blkC (N : List Str) (sc scope : Scope) (own : List (Str × Nat)) : Bool :=
  (match scope.kind with | .function => true | _ => false) && (scope.names.all fun y => decide (scope.names.lookup y.1 = some y.2)) && (own.all fun p => decide (N[p.2]? = some p.1)) &&
    (scope.names.all fun y => match y.2 with
      | .free => (match sc.names.lookup y.1 with | some .cell => true | some .free => true | _ => false)
      | .local => decide (y.1 ∈ own.map (·.1)) || decide (y.1 ∉ N)
      | .cell => decide (y.1 ∈ own.map (·.1)) || decide (y.1 ∉ N)
      | _ => true)
theorem blkOk_by {N : List Str} {sc scope : Scope} {own : List (Str × Nat)} (h : blkC N sc scope own = true) : BlkOk N sc scope own := by
  unfold blkC at h
  simp only [Bool.and_eq_true, List.all_eq_true, decide_eq_true_eq] at h
  obtain ⟨⟨⟨h1, h2⟩, h3⟩, h4⟩ := h
  refine ⟨?_, h2, h3, fun y hy e => ?_, fun y hy e => ?_⟩
  · split at h1
    · assumption
    · cases h1
  · have q := h4 y hy
    simp only [e] at q
    split at q <;> first | exact .inl (by assumption) | exact .inr (by assumption) | cases q
  · have q := h4 y hy
    rcases e with e | e <;> (simp only [e, Bool.or_eq_true, decide_eq_true_eq] at q; exact q)
end L2


namespace L2
open PySem PySem.Spec PyProof.Rows

/-! ### lists of pairs as tables -/
section
variable {κ : Type} [DecidableEq κ]
def valV (kvs : List (κ × V)) (k : κ) : Option V := (kvs.find? fun kv => decide (kv.1 = k)).map (·.2)
/-- in its place, or at the end -/
def putK (kvs : List (κ × V)) (k : κ) (v : V) : List (κ × V) :=
  if (kvs.any fun kv => decide (kv.1 = k)) = true then kvs.map (fun kv => if kv.1 = k then (kv.1, v) else kv) else kvs ++ [(k, v)]
def dropK (kvs : List (κ × V)) (k : κ) : List (κ × V) := kvs.filter fun kv => decide (kv.1 ≠ k)

theorem valV_pos {p : κ × V} {r : List (κ × V)} {k : κ} (e : p.1 = k) : valV (p :: r) k = some p.2 := by simp [valV, List.find?_cons, e]
theorem valV_neg {p : κ × V} {r : List (κ × V)} {k : κ} (e : ¬ p.1 = k) : valV (p :: r) k = valV r k := by simp [valV, List.find?_cons, e]
theorem valV_any (k : κ) : ∀ kvs : List (κ × V), (kvs.any fun kv => decide (kv.1 = k)) = (valV kvs k).isSome
  | [] => rfl
  | p :: r => by
    rw [List.any_cons]
    by_cases e : p.1 = k
    · simp only [valV_pos e, decide_eq_true e, Bool.true_or, Option.isSome_some]
    · rw [valV_neg e, decide_eq_false e, Bool.false_or]; exact valV_any k r
theorem length_putK (kvs : List (κ × V)) (k : κ) (v : V) : (putK kvs k v).length ≤ kvs.length + 1 := by
  unfold putK
  split
  · rw [List.length_map]; omega
  · rw [List.length_append, List.length_cons, List.length_nil]; omega
theorem putK_new {kvs : List (κ × V)} {k : κ} (v : V) (h : valV kvs k = none) : putK kvs k v = kvs ++ [(k, v)] := by
  unfold putK
  rw [valV_any, h]
  exact if_neg (by decide)


/-- raw tables of the same keys -/
theorem KV.val {kvs : List (κ × V)} {vs : List (κ × Value)} (r : KV kvs vs) (k : κ) : RelO (valV kvs k) (valueAt vs k) := by
  unfold KV at r
  induction r with
  | nil => exact True.intro
  | @cons p q ps qs h t ih =>
    obtain ⟨h1, h2⟩ := h
    by_cases e : p.1 = k
    · have e' : q.1 = k := h1.symm.trans e
      have b : valueAt (q :: qs) k = some q.2 := by simp [valueAt, List.find?_cons, e']
      rw [valV_pos e, b]; exact h2
    · have e' : ¬ q.1 = k := fun z => e (h1.trans z)
      have b : valueAt (q :: qs) k = valueAt qs k := by simp [valueAt, List.find?_cons, e']
      rw [valV_neg e, b]; exact ih
theorem KV.any {kvs : List (κ × V)} {vs : List (κ × Value)} (r : KV kvs vs) (k : κ) : (kvs.any fun kv => decide (kv.1 = k)) = vs.any fun kv => decide (kv.1 = k) := by
  unfold KV at r
  induction r with
  | nil => rfl
  | cons h t ih => rw [List.any_cons, List.any_cons, ih, h.1]
theorem KV.repl {kvs : List (κ × V)} {vs : List (κ × Value)} (r : KV kvs vs) (k : κ) {y : V} {u : Value} (ry : RelV y u) :
    KV (kvs.map fun kv => if kv.1 = k then (kv.1, y) else kv) (vs.map fun kv => if kv.1 = k then (kv.1, u) else kv) := by
  unfold KV at r ⊢
  induction r with
  | nil => exact .nil
  | @cons p q ps qs h t ih =>
    rw [List.map_cons, List.map_cons]
    refine .cons ?_ ih
    obtain ⟨h1, h2⟩ := h
    by_cases e : p.1 = k
    · rw [if_pos e, if_pos (h1.symm.trans e)]; exact ⟨h1, ry⟩
    · rw [if_neg e, if_neg (fun z => e (h1.trans z))]; exact ⟨h1, h2⟩
theorem KV.put {kvs : List (κ × V)} {vs : List (κ × Value)} (r : KV kvs vs) (k : κ) {y : V} {u : Value} (ry : RelV y u) : KV (putK kvs k y) (stored vs k u) := by
  unfold putK stored
  rw [r.any k]
  by_cases e : (vs.any fun kv => decide (kv.1 = k)) = true
  · rw [if_pos e, if_pos e]; exact r.repl k ry
  · rw [if_neg e, if_neg e]; exact Paired.snoc r ⟨rfl, ry⟩
theorem KV.drop {kvs : List (κ × V)} {vs : List (κ × Value)} (r : KV kvs vs) (k : κ) : KV (dropK kvs k) (without vs k) := by
  unfold KV at r ⊢
  unfold dropK without
  induction r with
  | nil => exact .nil
  | @cons p q ps qs h t ih =>
    obtain ⟨h1, h2⟩ := h
    rw [List.filter_cons, List.filter_cons]
    by_cases e : p.1 = k
    · have a : ¬ decide (p.1 ≠ k) = true := by simp [e]
      have b : ¬ decide (q.1 ≠ k) = true := by simp [h1.symm.trans e]
      rw [if_neg a, if_neg b]; exact ih
    · have e' : ¬ q.1 = k := fun z => e (h1.trans z)
      have a : decide (p.1 ≠ k) = true := by simp [e]
      have b : decide (q.1 ≠ k) = true := by simp [e']
      rw [if_pos a, if_pos b]; exact .cons ⟨h1, h2⟩ ih
theorem KV.keys {kvs : List (κ × V)} {vs : List (κ × Value)} (r : KV kvs vs) : kvs.map (·.1) = vs.map (·.1) := by
  unfold KV at r
  induction r with
  | nil => rfl
  | cons h t ih => rw [List.map_cons, List.map_cons, ih, h.1]
theorem KV.length {kvs : List (κ × V)} {vs : List (κ × Value)} (r : KV kvs vs) : kvs.length = vs.length := Paired.length r
theorem dropK_le (kvs : List (κ × V)) (k : κ) : (dropK kvs k).length ≤ kvs.length := List.length_filter_le _ _
end


/-! ### a tracked dict, its keys ints and texts or tuples of these -/
theorem kV_is {P : Program} {w : World} {k : Key} {u : Value} (r : RelV (kV k) u) : (mixKind P w).is k u = true := by
  cases k with
  | inl i => obtain ⟨t, e⟩ := (show ∃ t, u = Value.int i t from r); subst e; exact mixKind_int P w i t
  | inr x => obtain ⟨t, e⟩ := (show ∃ t, u = Value.str x t from r); subst e; exact mixKind_str P w x t


section
variable {P : Program} {w : World} {H : Hp} {h : Heap} {a : Addr}
theorem rd_of {u : HO} (ok : HOk P w H h) (e : Rd H a u) : ObjOk P w H h a u := e.ok ok
theorem dk_rd {kvs : List (Key × V)} (ok : HOk P w H h) (e : Rd H a (.dK kvs)) : kvs.length ≤ sizeLine ∧ (a == sysModules) = false ∧ ∃ vs, KV kvs vs ∧ h.DictOf (mixKind P w) a vs :=
  show ObjOk P w H h a (.dK kvs) from rd_of ok e
theorem dk_of {kvs : List (Key × V)} (ok : HOk P w H h) (e : H a = some (.dK kvs)) : kvs.length ≤ sizeLine ∧ (a == sysModules) = false ∧ ∃ vs, KV kvs vs ∧ h.DictOf (mixKind P w) a vs := dk_rd ok (.inl e)
end



section
variable {X : Cx} {pins : List (Addr × Obj)} {σ : St} {H : Hp} {s : Shared} {a : Addr} {y v : V} {u r : Value} {o : Option V} {A : Around} {E : Value → Shared → Prop}

theorem Inv.big (I : Inv X pins σ H s) : sysModules < s.heap.objs.size := by
  have h : mainGlobals < s.heap.objs.size := (I.mod.glob.keeps I.bk).lt
  exact Nat.lt_trans (by decide) h

/-- a dict's object is replaced -/
theorem d_write {h' : Heap} {t' : Nat} {ob : HO} (I : Inv X pins σ H s) (mu : Mut (H a)) (hs : Heap.SameBut a s.heap h') (he : ∃ q, h'.get? a = some q) (new : ObjOk X.prog X.w (upd H a ob) h' a ob) :
    Inv X pins σ (upd H a ob) { s with heap := h', toks := t' } :=
  I.write (x := a) (e := a) mu (.inl rfl) (fun b q hb z => (hs.2 b hb).trans z) he new
theorem dk_new {P : Program} {w : World} {H' : Hp} {h' : Heap} {kvs : List (Key × V)} {vs : List (Key × Value)} (z : kvs.length ≤ sizeLine) (hd : (a == sysModules) = false) (rel : KV kvs vs) (dd : h'.DictOf (mixKind P w) a vs) :
    ObjOk P w H' h' a (.dK kvs) := ⟨z, hd, vs, rel, dd⟩
end

section
variable {X : Cx} {pins : List (Addr × Obj)} {σ : St} {H : Hp} {s : Shared} {a : Addr} {kvs : List (Key × V)} {k : Key} {u : Value} {A : Around} {E : Value → Shared → Prop}
/-- d.pop(k[, x]), there -/
theorem d_pop {v : V} {more : List Value} {Q : Value → Shared → Prop} (I : Inv X pins σ H s) (e : H a = some (.dK kvs)) (ry : RelV (kV k) u) (l : valV kvs k = some v) (hm : more = [] ∨ ∃ x, more = [x])
    (h : ∀ w' s', Inv X pins σ (upd H a (.dK (dropK kvs k))) s' → RelV v w' → Q w' s') : wpAny (model X.prog X.w) A (call (.builtin "dict.pop") (.ref a :: u :: more)) Q E s := by
  obtain ⟨z, hd, vs, rel, dd⟩ := dk_of I.hok e
  obtain ⟨w', hw, rw'⟩ := RelO.some_of (v := v) (o := valueAt vs k) (by rw [← l]; exact rel.val k)
  have hp : (keyPart u).isSome = true := by
    cases k with
    | inl i => obtain ⟨t, q⟩ := (show ∃ t, u = Value.int i t from ry); subst q; rfl
    | inr x => obtain ⟨t, q⟩ := (show ∃ t, u = Value.str x t from ry); subst q; rfl
  have ha : argsOk "dict.pop" ⟨.ref a :: u :: more, []⟩ := by
    rcases hm with q | ⟨x, q⟩
    · subst q; exact PySem.F.args_dict_pop_2 _ _
    · subst q; exact PySem.F.args_dict_pop_3 _ _ _
  refine call_meetsIn PySem.F.slot_dict_pop dd.typeIs PySem.F.entry_dict_pop ha (meets_dict_pop_there (mixKind X.prog X.w) a (kV_is ry) more hm hp)
    ⟨vs, w', dd, by rw [← rel.length]; exact z, hw, fun h' dd' hs => h w' _ ?_ rw'⟩
  have he : ∃ q, h'.get? a = some q := let ⟨q, _, _, hq, _⟩ := dd'; ⟨q, hq⟩
  exact d_write I (by rw [e]; exact True.intro) hs he (dk_new (Nat.le_trans (dropK_le kvs k) z) hd (rel.drop k) dd')
end



/-! ### displays -/
theorem dk_empty {P : Program} {w : World} {H : Hp} (h : Heap) (hb : sysModules < h.objs.size) : ObjOk P w H (h.push { cls := .type "dict", data := .dict #[] }) h.objs.size (.dK []) :=
  ⟨Nat.zero_le _, beq_eq_false_iff_ne.mpr (Ne.symm (Nat.ne_of_lt hb)), [], .nil, Heap.DictOf.new h⟩
section
variable {X : Cx} {pos : Pos}
end

/-- the pairs of a display, from the left -/
def tPairs : List (TE × TE) → St → Hp → (List (V × V) → Hp → Prop) → Prop
  | [], _, H, Q => Q [] H
  | (tk, tv) :: r, σ, H, Q => tk σ H fun x H1 => tv σ H1 fun y H2 => tPairs r σ H2 fun ps H3 => Q ((x, y) :: ps) H3
abbrev VV : List (V × V) → List (Value × Value) → Prop := Paired fun p q => RelV p.1 q.1 ∧ RelV p.2 q.2
def PPs (X : Cx) (pos : Pos) (keys : List (Option Expr)) (values : List Expr) (trs : List (TE × TE)) : Prop :=
  ∀ (pins : List (Addr × Obj)) (s : Shared) (σ : St) (H : Hp) (Q : List (V × V) → Hp → Prop), Inv X pins σ H s → tPairs trs σ H Q →
    wpAny (model X.prog X.w) X.A (evalPairs (pairTrees keys values X.env pos)) (fun vs s' => ∃ ps H', Inv X pins σ H' s' ∧ VV ps vs ∧ Q ps H') X.xe s
theorem pps_nil {X : Cx} {pos : Pos} : PPs X pos [] [] [] := fun pins s σ H Q I h => pairTrees_nil_walk ⟨[], H, I, .nil, h⟩
theorem pps_cons {X : Cx} {pos : Pos} {k v : Expr} {ks : List (Option Expr)} {vs : List Expr} {tk tv : TE} {trs : List (TE × TE)} (hk : PE X k tk) (hv : PE X v tv) (hr : PPs X pos ks vs trs) :
    PPs X pos (some k :: ks) (v :: vs) ((tk, tv) :: trs) := fun pins s σ H Q I h =>
  pairTrees_cons_walk (thn (hk pins s σ H _ I h) fun u s1 ⟨x, H1, I1, rx, q1⟩ => thn (hv pins s1 σ H1 _ I1 q1) fun w2 s2 ⟨y, H2, I2, ry, q2⟩ =>
    thn (hr pins s2 σ H2 _ I2 q2) fun ws s3 ⟨ps, H3, I3, rel, q3⟩ => ⟨(x, y) :: ps, H3, I3, .cons ⟨rx, ry⟩ rel, q3⟩)

def mergeK (kvs more : List (Key × V)) : List (Key × V) := more.foldl (fun acc kv => putK acc kv.1 kv.2) kvs
theorem KV.merge : ∀ {more : List (Key × V)} {rs : List (Key × Value)} {kvs : List (Key × V)} {vs : List (Key × Value)}, KV more rs → KV kvs vs → KV (mergeK kvs more) (merged vs rs) := by
  intro more rs kvs vs r
  unfold KV at r
  induction r generalizing kvs vs with
  | nil => intro q; exact q
  | @cons p q ps qs h t ih =>
    intro r0
    have e : KV (putK kvs p.1 p.2) (stored vs q.1 q.2) := by
      have := r0.put p.1 h.2
      rw [← h.1]; exact this
    exact ih e
theorem length_mergeK : ∀ (more kvs : List (Key × V)), (mergeK kvs more).length ≤ kvs.length + more.length
  | [], kvs => by show kvs.length ≤ kvs.length + 0; omega
  | p :: r, kvs => by
    have h1 := length_mergeK r (putK kvs p.1 p.2)
    have h2 := length_putK kvs p.1 p.2
    show (mergeK (putK kvs p.1 p.2) r).length ≤ _
    rw [List.length_cons]; omega
theorem carries_of {P : Program} {w : World} : ∀ {kvs : List (Key × V)} {ws : List (Value × Value)}, VV (kvs.map fun kv => (kV kv.1, kv.2)) ws → ∃ rs, Carries (mixKind P w) ws rs ∧ KV kvs rs
  | [], _, r => by rw [List.map_nil] at r; cases r; exact ⟨[], True.intro, .nil⟩
  | p :: kvs, _, r => by
    rw [List.map_cons] at r
    cases r with
    | @cons a b as bs h t =>
      obtain ⟨rs, c, q⟩ := carries_of (P := P) (w := w) t
      obtain ⟨b1, b2⟩ := b
      exact ⟨(p.1, b2) :: rs, ⟨kV_is h.1, rfl, c⟩, .cons ⟨rfl, h.2⟩ q⟩
/-- {k: v, ..} with keys ints and texts; the new dict stands empty while the pairs are made -/
def tDisp (trs : List (TE × TE)) : TE := fun σ H Q => ∀ p, H p = none → tPairs trs σ (upd H p (.dK [])) fun ps H2 => H2 p = some (.dK []) ∧ ∃ kvs : List (Key × V), ps = kvs.map (fun kv => (kV kv.1, kv.2)) ∧ kvs.length ≤ 15 ∧ Q (.ref p) (upd H2 p (.dK (mergeK [] kvs)))
theorem pe_disp {X : Cx} {pos : Pos} {keys : List (Option Expr)} {values : List Expr} {trs : List (TE × TE)} (h : PPs X pos keys values trs) (hall : keys.all (·.isSome) = true) (hl : keys.length = values.length) (h0 : keys ≠ [])
    (h15 : keys.length ≤ 15) : PE X (.Dict keys values pos) (tDisp trs) := by
  intro pins s σ H Q I q
  have hn := I.hok.fresh (Nat.le_refl s.heap.objs.size)
  have I1 := I.laid (a := s.heap.objs.size) (o := .dK []) (h' := s.heap.push { cls := .type "dict", data := .dict #[] }) (t' := s.toks) (fun _ _ q => Heap.get?_push_of_some _ q) (Nat.le_refl _) (dk_empty s.heap I.big)
  refine wpAny_Dict_walk (knd := mixKind X.prog X.w) hall hl h0 h15 (thn (h pins _ σ _ _ I1 (q _ hn)) fun ws s2 ⟨ps, H2, I2, rel, e, kvs, ep, lk, q2⟩ => ?_)
  subst ep
  obtain ⟨rs, c, rk⟩ := carries_of (P := X.prog) (w := X.w) rel
  obtain ⟨z, hd, vs0, r0, dd⟩ := dk_of I2.hok e
  cases r0
  refine ⟨rs, c, dd, fun h' dd' hs => ⟨.ref s.heap.objs.size, _, ?_, rfl, q2⟩⟩
  have hz : (mergeK [] kvs).length ≤ sizeLine := by
    have h1 := length_mergeK kvs []
    rw [List.length_nil] at h1
    rw [sizeLine_eq]; omega
  have he : ∃ q, h'.get? s.heap.objs.size = some q := let ⟨q, _, _, hq, _⟩ := dd'; ⟨q, hq⟩
  exact d_write I2 (by rw [e]; exact True.intro) hs he (dk_new hz hd (rk.merge .nil) dd')


end L2




namespace Att
open PySem PySem.W PySem.Calls PyProof.Rows

/-! ### the script -/



/-! ### the attachment: holds_open's last premise (the goal 'hc' behind k_head) from a wpAny of the law's body -/



/-! ### rules over ANY heap (no ledger) from facts about the written part K: the library's own take a ledger (News) for what they write -/
section
variable {prog : Program} {w : World} {A : Around} {E : Value → Shared → Prop} {s : Shared} {K : Frag}


/-- C(..): dict at size, instance at size + 1, then __init__ -/
theorem make_obj {R : Result → Shared → Prop} {C fI : Addr} {rest : List Value} {kw : List (Str × Value)}
    (X : K.In s.heap) (hm : makesIn K C = true) (hi : findIn K (.ref C) "__init__" = some (some (.ref fI))) (hf : isFn K (.ref fI) = true)
    (h : codeAny (model prog w) (A.under (.builtin "type.__call__" ⟨.ref C :: rest, kw⟩)) (.call (.ref fI) ⟨.ref (s.heap.objs.size + 1) :: rest, kw⟩) (InitBack (s.heap.objs.size + 1) R)
      { s with heap := (s.heap.push emptyDict).push (instObj C s.heap.objs.size) }) : codeAny (model prog w) A (.call (.ref C) ⟨rest, kw⟩) R s := by
  obtain ⟨hh, g, d, t, os⟩ := s
  exact make_core (makes_of X hm) (looks_findIn X hi) (fun self => bind_fn X self (beq_iff_eq.mp hf)) (.inl rfl) h

/-- x.name where the instance's dict holds the name and the class does not -/
theorem get_field {x C : Addr} {ox : Obj} {es : List DictEntry} {n : Nat} {name : Str} {expr : Bool} {v : Value} {Q : Value → Shared → Prop}
    (X : K.In s.heap) (I : PySem.W.InstAt s.heap x ox C (some (dictOf es n))) (hg : plainGet K C name = true) (hh : hasDictIn K C = true) (ha : findIn K (.ref C) name = some none)
    (hl : getL name es = some (some v)) (hv : handedIn v = true) (h : Q v { s with toks := s.toks + 1 }) : wpAny (model prog w) A (getAttr (.ref x) name expr) Q E s :=
  get_value X I (plainGet_of hg).1 (findObj_own hh ha rfl hl) hv h


/-! the whole heap as the ledger: makes every rule that writes through a ledger a rule over any heap -/

end
end Att

namespace L2
open PySem PySem.Spec PyProof.Rows



end L2

namespace L2
open PySem PySem.Spec PyProof.Rows


end L2

/-! SHORT WORDS over the layer: a def of the text, its body, what a loop and a test want. -/
namespace L2
open PySem PySem.Spec PyProof.Rows

/-! ### the text by places -/
/-! ### no exception leaves a def -/
abbrev CX0 : CXT := fun _ _ _ _ _ _ => False
abbrev E0 : XK := fun _ _ _ => False
theorem pass0 {X : Cx} : Passes CX0 X E0 := fun _ _ _ _ _ _ _ h => h.elim

/-! ### a def (or method) of the text as it stands behind the top -/
structure Fun (K : PySem.W.Frag) (x qual : Str) (st : Stmt) (f : Addr) (fd : FuncData) : Prop where
  ex : ∃ (oc : Value) (od : Option Addr) (kV doc pm : Value) (an : Option Addr) (cdv ct : Value) (osl : Array (Option Value)),
    fd = PySem.W.fnOf x qual (defArgs st) (defBody st) (defScope st) .none kV doc pm an cdv ct ∧ K.lookup f = some ⟨oc, od, .func fd, osl⟩ ∧ PySem.W.codeIn K cdv qual = true
  kp : PySem.W.keepIn K (.ref f) = true
section
variable {P : Program} {w : World} {K : PySem.W.Frag} {mg : Str → Option Value} {base : Heap}
/-- THE RULE for a def: its body as a term of rules, and the reading of that term -/
theorem Fun.ok {x qual : Str} {st : Stmt} {f : Addr} {fd : FuncData} {N ps : List Str} {k : Nat} {sp : Sp} (F : Fun K x qual st f fd) (S : FnScope N ps (defScope st)) (len : ∀ vs H Q E, sp vs H Q E → vs.length = ps.length)
    (hbody : ∀ (cdv : Value) (A : Around) (outer : List Env) (s : Shared) (H : Hp) (vs : List V) (Q : VK) (E : XK), Room k (A.deeper (envOfC qual (defScope st) s.heap.objs.size f cdv)) → sp vs H Q E →
      ∃ t, PSs (cxOf CX0 P w K mg base N qual (defScope st) f cdv A outer s H E).nox (defBody st) t ∧ t { nx := fun _ H' => Q .non H', rt := Q } (start N vs) H) : FnOk P w K mg base CX0 (k + 1) f fd ps sp := by
  obtain ⟨oc, od, kV, doc, pm, an, cdv, ct, osl, rfl, lk, hcd⟩ := F.ex
  refine fn_of lk hcd S len fun A outer s H vs Q E hr hsp => ?_
  obtain ⟨t, h, q⟩ := hbody cdv A outer s H vs Q E hr hsp
  exact ⟨t, h.nox, q⟩
/-- how its arguments bind (no defaults): h is «fun _ _ _ _ _ _ us hl => match us, hl with | [_, _], _ => rfl», one _ a parameter -/
theorem Fun.binds {x qual : Str} {st : Stmt} {f : Addr} {fd : FuncData} {ps : List Str} (F : Fun K x qual st f fd)
    (h : ∀ (kV doc pm : Value) (an : Option Addr) (cdv ct : Value) (us : List Value), us.length = ps.length → bindArgs (PySem.W.fnOf x qual (defArgs st) (defBody st) (defScope st) .none kV doc pm an cdv ct) ⟨us, []⟩ = pure (ps.zip us)) : Binds K fd ps [] := by
  obtain ⟨oc, od, kV, doc, pm, an, cdv, ct, osl, rfl, lk, hcd⟩ := F.ex
  exact .all (h kV doc pm an cdv ct)
theorem fun_mk {x qual : Str} {st : Stmt} {f : Addr} {oc : Value} {od an : Option Addr} {osl : Array (Option Value)} {kV doc pm cdv ct : Value} (l : K.lookup f = some ⟨oc, od, .func (PySem.W.fnOf x qual (defArgs st) (defBody st) (defScope st) .none kV doc pm an cdv ct), osl⟩)
    (c : PySem.W.codeIn K cdv qual = true) (k : PySem.W.keepIn K (.ref f) = true) : Fun K x qual st f (PySem.W.fnOf x qual (defArgs st) (defBody st) (defScope st) .none kV doc pm an cdv ct) := ⟨⟨oc, od, kV, doc, pm, an, cdv, ct, osl, rfl, l, c⟩, k⟩
end

/-! ### expressions in short: the name that stands in the i-th slot -/
section
variable {X : Cx}
theorem pv (i : Nat) {x : Str} {pos : Pos} (hN : X.N[i]? = some x := by rfl) (hv : Vis X.env.scope x := by first | exact Or.inl rfl | exact Or.inr (Or.inl rfl) | exact Or.inr (Or.inr rfl)) (hd : (x == ("__debug__" : Str)) = false := by decide)
    (hcd : (x == ("__classdict__" : Str)) = false := by decide) : PE X (.Name x pos) (tVar i) := pe_var hN hv hd hcd
end

/-! ### tests -/
theorem iteF {A B : Prop} (h : B) : if false = true then A else B := by
  rw [if_neg Bool.false_ne_true]
  exact h
theorem iteT {A B : Prop} (h : A) : if true = true then A else B := by
  rw [if_pos rfl]
  exact h
theorem ite2 {c A B : Prop} [Decidable c] (h1 : c → A) (h2 : ¬ c → B) : if c then A else B := by
  by_cases h : c
  · rw [if_pos h]
    exact h1 h
  · rw [if_neg h]
    exact h2 h

/-! ### heaps -/
/-- all that was tracked is as it was -/
def Same (H H' : Hp) : Prop := ∀ b o, H b = some o → H' b = some o
theorem Same.refl (H : Hp) : Same H H := fun _ _ h => h
theorem Same.trans {H H1 H2 : Hp} (a : Same H H1) (b : Same H1 H2) : Same H H2 := fun c o h => b c o (a c o h)
theorem Same.free {H H' : Hp} (e : Same H H') {l : Addr} (h : H' l = Option.none) : H l = Option.none := by
  cases q : H l with
  | none => rfl
  | some o =>
    rw [e l o q] at h
    cases h
theorem Same.seq {K : PySem.W.Frag} {H H' : Hp} {a : Addr} {xs : List V} (e : Same H H') (h : SqL K H a xs) : SqL K H' a xs := by
  rcases h with (h | ⟨o, h⟩) | h
  · exact .inl (.inl (e _ _ h))
  · exact .inl (.inr ⟨o, e _ _ h⟩)
  · exact .inr h

/-! ### lists -/
/-- a new instance and its __init__ leave all that was tracked as it was -/
theorem Same.made {H H1 : Hp} {x dx C : Addr} (nx : H x = Option.none) (nd : H dx = Option.none) (k : ∀ b o, (upd (upd H dx (.own x)) x (.ins C dx [])) b = some o → b ≠ x → H1 b = some o) : Same H H1 := fun b o e =>
  k b o (by rw [upd_ne (ne_of_none e nx), upd_ne (ne_of_none e nd)]; exact e) (ne_of_none e nx)
end L2
section
set_option Elab.async false
set_option linter.all false
set_option maxRecDepth 100000
/-! Rules of my own for the hand layer; the text by places. -/
namespace Rv
open PySem PySem.Spec PyProof.Rows L2

abbrev vI (n : Nat) : V := .int (n : Int)
abbrev nL (l : List Nat) : List V := l.map vI

section
variable {X : Cx}
/-- a number that a file's top names -/
theorem pe_gi {x : Str} {k : Int} {pos : Pos} (hg : Gl X x) (h : ∃ t, X.mg x = some (Value.int k t)) (hd : (x == ("__debug__" : Str)) = false := by decide) : PE X (.Name x pos) (tC (.int k)) := by
  obtain ⟨t, e⟩ := h
  exact pe_glob hg e ⟨t, rfl⟩ hd

/-! ### sets -/
def setO (w : World) (p : Addr) (ks : List Int) : HO := .ext fun h => RvS.SetI w h p ks
theorem setO_ok {P : Program} {w : World} {H : Hp} {h : Heap} {p : Addr} {ks : List Int} (S : RvS.SetI w h p ks) : ObjOk P w H h p (setO w p ks) := by
  refine ⟨S, ?_, fun h1 h2 q k => q.at k⟩
  obtain ⟨o, _, _, _, T⟩ := S
  exact ⟨o, T.ob⟩
theorem intsAre_get : ∀ {us : List Value} {ns : List Int}, IntsAre us ns → us.length = ns.length := fun h => IntsAre.length h
def rSet (K : PySem.W.Frag) (w : World) : List V → Hp → VK → Prop := fun vs H Q => ∃ (a : Addr) (ns : List Int), vs = [V.ref a] ∧ SqL K H a (ns.map V.int) ∧ ns.length < 1000 ∧
  ∀ (p : Addr) (ks : List Int), H p = none → ks.Nodup → (∀ k, k ∈ ks ↔ k ∈ ns) → ks.length ≤ ns.length → Q (.ref p) (upd H p (setO w p ks))
theorem cr_set (hc : X.calm = true) : CallR X (.type "set") (rSet X.K X.w) := by
  intro pins s σ H vs us Q I r h
  obtain ⟨a, ns, rfl, hs, hb, q⟩ := h
  obtain ⟨its, rv, hl, _⟩ := I.list hs
  rw [Vals.ref1 r]
  have hi : IntsAre its ns := rv.ints
  have hlen : its.length = ns.length := IntsAre.length hi
  refine RvS.call_set (I.ok.hd hc) hl.isList (by simpa using hi) (by rw [List.size_toArray, hlen]; show ns.length + 1 < 4096; omega) fun h' tk ks S M old => ?_
  refine ⟨.ref _, _, I.laid (t' := tk) old (Nat.le_refl _) (setO_ok S), rfl, q _ ks (I.hok.fresh (Nat.le_refl _)) M.1 (fun k => ?_) ?_⟩
  · rw [M.2.1, List.size_toArray, hlen]
    constructor
    · rintro ⟨j, hj, e⟩
      rw [← e]
      show ns.getD j 0 ∈ ns
      rw [List.getD_eq_getElem?_getD, List.getElem?_eq_getElem hj]
      exact List.getElem_mem hj
    · intro hk
      obtain ⟨j, hj, e⟩ := List.mem_iff_getElem.mp hk
      refine ⟨j, hj, ?_⟩
      show ns.getD j 0 = k
      rw [List.getD_eq_getElem?_getD, List.getElem?_eq_getElem hj]
      exact e
  · have := M.2.2
    rw [List.size_toArray, hlen] at this
    exact this
def rSortedSet (w : World) : List V → Hp → VK → Prop := fun vs H Q => ∃ (a : Addr) (ks : List Int), vs = [V.ref a] ∧ H a = some (setO w a ks) ∧ ks.length < 64 ∧
  ∀ (ns : List Int) (p : Addr), ns.Perm ks → ns.Pairwise (· ≤ ·) → H p = none → Q (.ref p) (upd H p (.lst (ns.map V.int)))
theorem cr_sortedSet (hc : X.calm = true) : CallR X (.builtin "sorted") (rSortedSet X.w) := by
  intro pins s σ H vs us Q I r h
  obtain ⟨a, ks, rfl, ha, h64, q⟩ := h
  rw [Vals.ref1 r]
  obtain ⟨⟨o, es, ep, t, S⟩, _, _⟩ := I.hok a _ ha
  refine RvS.sorted_set (I.ok.hd hc) S h64 fun out ns' L c s' h1 h2 h3 old hL hg ho hob => ?_
  have hlen : (ns'.map V.int).length ≤ sizeLine := by rw [List.length_map, h2.length_eq]; exact small64 h64
  have u : Un (frs X.stack) [] H (upd H L (.lst (ns'.map V.int))) s.heap s'.heap := Un.laid old hL (I.hok.fresh hL)
  refine ⟨.ref L, _, I.call' (ch := []) ho u (I.hok.laid old hL ⟨hlen, out.toList, c, vals_of_ints h1, hob⟩) (by rw [hg]; exact I.bare) (fun b hb => by cases hb), rfl, q ns' L h2 h3 (I.hok.fresh hL)⟩

/-! ### a dict from a number to a list: min, pop, setdefault -/
abbrev kvL (kvs : List (Nat × Addr)) : List (Key × V) := kvs.map fun kv => ((Sum.inl (kv.1 : Int) : Key), V.ref kv.2)
theorem valV_mem {y : Nat} {a : Addr} : ∀ {kvs : List (Nat × Addr)}, (kvs.map (·.1)).Nodup → (y, a) ∈ kvs → valV (kvL kvs) (Sum.inl (y : Int)) = some (V.ref a)
  | [], _, h => by simp at h
  | kv :: r, nd, h => by
    rw [List.map_cons, List.nodup_cons] at nd
    rw [kvL, List.map_cons]
    rcases List.mem_cons.mp h with e | h
    · subst e; exact valV_pos rfl
    · have ne : kv.1 ≠ y := fun e => nd.1 (List.mem_map.mpr ⟨_, h, e.symm⟩)
      rw [valV_neg (fun e => ne (by have := Sum.inl.inj e; omega))]
      exact valV_mem nd.2 h
theorem valV_is {y : Nat} {v : V} : ∀ {kvs : List (Nat × Addr)}, valV (kvL kvs) (Sum.inl (y : Int)) = some v → ∃ a, (y, a) ∈ kvs ∧ v = V.ref a
  | [], h => by cases h
  | kv :: r, h => by
    rw [kvL, List.map_cons] at h
    by_cases e : kv.1 = y
    · rw [valV_pos (by rw [e])] at h
      cases h
      exact ⟨kv.2, by rw [← e]; exact List.mem_cons_self, rfl⟩
    · rw [valV_neg (fun z => e (by have := Sum.inl.inj z; omega))] at h
      obtain ⟨a, h1, h2⟩ := valV_is h
      exact ⟨a, List.mem_cons_of_mem _ h1, h2⟩
theorem dropK_kv {x : Nat} (kvs : List (Nat × Addr)) : dropK (kvL kvs) (Sum.inl (x : Int)) = kvL (kvs.filter fun kv => decide (kv.1 ≠ x)) := by
  unfold dropK kvL
  rw [List.filter_map]
  congr 1
  refine List.filter_congr fun kv _ => ?_
  simp only [Function.comp, decide_eq_decide]
  exact not_congr ⟨fun e => by have := Sum.inl.inj e; omega, fun e => by rw [e]⟩
def rMinD : List V → Hp → VK → Prop := fun vs H Q => ∃ (a : Addr) (kvs : List (Nat × Addr)), vs = [V.ref a] ∧ H a = some (.dK (kvL kvs)) ∧ 0 < kvs.length ∧ ∀ x b, (x, b) ∈ kvs → (∀ y c, (y, c) ∈ kvs → x ≤ y) → Q (vI x) H
theorem cr_minD (hc : X.calm = true) : CallR X (.builtin "min") rMinD := by
  intro pins s σ H vs us Q I r h
  obtain ⟨a, kvs, rfl, ha, hne, q⟩ := h
  rw [Vals.ref1 r]
  obtain ⟨z, hd, vs, rel, dd⟩ := dk_of I.hok ha
  obtain ⟨ep, dat⟩ := dd.dictAt
  have hlen : vs.length = kvs.length := by rw [← rel.length, List.length_map]
  have hlt : a < s.heap.objs.size := by obtain ⟨o, _, ho, _⟩ := dat; exact Heap.lt_size ho
  have keyAt : ∀ i k x, vs[i]? = some (k, x) → i < kvs.length ∧ k = Sum.inl ((kvs.getD i (0, 0)).1 : Int) := fun i k x hx => by
    obtain ⟨hi, _⟩ := List.getElem?_eq_some_iff.mp hx
    have hi' : i < kvs.length := by omega
    refine ⟨hi', ?_⟩
    have e := congrArg (fun l => l[i]?) rel.keys
    simp only [List.getElem?_map, hx, List.getElem?_eq_getElem hi', Option.map_some] at e
    rw [List.getD_eq_getElem?_getD, List.getElem?_eq_getElem hi']
    exact (Option.some.inj e).symm
  refine call_min_walk (wpAny_pyIter_dict hd dat ?_)
  refine ⟨s.heap.objs.size, _, _, _, _, _, fun i j => decide (((kvs.getD i (0, 0)).1 : Int) < ((kvs.getD j (0, 0)).1 : Int)), rfl, Walks.dictKeys (knd := mixKind X.prog X.w) (A := X.A.in1) (I.ok.hd hc) s.heap.objs.size a (Nat.ne_of_lt hlt) vs ep,
    ⟨⟨_, Heap.get?_push_size _ rfl, rfl, rfl⟩, dat.push _⟩, fun b hb => ?_, by omega, CmpOf.ints_lt (fun i => ((kvs.getD i (0, 0)).1 : Int)) (fun i v hP => ?_), fun v h' tk hP hk => ?_⟩
  · show b < (s.heap.push _).objs.size
    rw [Heap.size_push]
    simp only [List.mem_cons, List.not_mem_nil, or_false] at hb
    rcases hb with rfl | rfl
    · exact Nat.lt_succ_self _
    · exact Nat.lt_succ_of_lt hlt
  · obtain ⟨k, x, hx, hk⟩ := hP
    rw [(keyAt i k x hx).2, mixKind_is] at hk
    rcases keyIs_shape hk with ⟨j, t, e1, e2⟩ | ⟨y, t, e1, _⟩
    · cases e1; exact ⟨t, e2⟩
    · cases e1
  · obtain ⟨k, x, hx, hkk⟩ := hP
    have hb := argBest_lt (fun i => ((kvs.getD i (0, 0)).1 : Int)) (vs.length - 1)
    generalize argBest (fun i j => decide (((kvs.getD i (0, 0)).1 : Int) < ((kvs.getD j (0, 0)).1 : Int))) (vs.length - 1) = i at hx hb
    obtain ⟨hi, ek⟩ := keyAt _ k x hx
    rw [ek, mixKind_is] at hkk
    have old : ∀ b o, s.heap.get? b = some o → h'.get? b = some o := fun b o e => hk b o (fun hm => by
      rw [List.mem_singleton] at hm
      rw [hm] at e
      exact absurd (Heap.lt_size e) (Nat.lt_irrefl _)) (Heap.get?_push_of_some _ e)
    have hv : ∃ t, v = Value.int ((kvs.getD i (0, 0)).1 : Int) t := by
      rcases keyIs_shape hkk with ⟨j, t, e1, e2⟩ | ⟨y, t, e1, _⟩
      · cases e1; exact ⟨t, e2⟩
      · cases e1
    have gi : kvs.getD i (0, 0) = kvs[i] := by rw [List.getD_eq_getElem?_getD, List.getElem?_eq_getElem hi]; rfl
    refine ⟨vI (kvs.getD i (0, 0)).1, H, I.kept old, hv, q _ kvs[i].2 (by rw [gi]; exact List.getElem_mem hi) fun y c hyc => ?_⟩
    obtain ⟨j, hj, ej⟩ := List.mem_iff_getElem.mp hyc
    have := hb.2 j (by omega)
    have gj : kvs.getD j (0, 0) = (y, c) := by rw [List.getD_eq_getElem?_getD, List.getElem?_eq_getElem hj]; exact ej
    rw [gj] at this
    dsimp only at this
    omega
def rPopD : V → List V → Hp → VK → Prop := fun x vs H Q => ∃ (a : Addr) (kvs : List (Nat × Addr)) (y : Nat) (b : Addr), x = .ref a ∧ vs = [vI y] ∧ H a = some (.dK (kvL kvs)) ∧ (kvs.map (·.1)).Nodup ∧ (y, b) ∈ kvs ∧ Q (.ref b) (upd H a (.dK (kvL (kvs.filter fun kv => decide (kv.1 ≠ y)))))
theorem mt_popD : MtM X "dict.pop" rPopD := by
  intro pins s σ H x vs v us Q I rx rv h
  obtain ⟨a, kvs, y, b, rfl, rfl, ha, nd, hm, q⟩ := h
  cases rx
  obtain ⟨u, rfl, ru⟩ := rv.one
  refine d_pop (k := Sum.inl (y : Int)) I ha ru (valV_mem nd hm) (.inl rfl) fun w' s3 I3 rw' => ⟨.ref b, _, I3, rw', ?_⟩
  rw [dropK_kv]
  exact q
def rSetD : V → List V → Hp → VK → Prop := fun x vs H Q => ∃ (a : Addr) (kvs : List (Nat × Addr)) (y : Nat) (t : Addr), x = .ref a ∧ vs = [vI y, .ref t] ∧ H a = some (.dK (kvL kvs)) ∧ kvs.length < sizeLine ∧
  (∀ b, (y, b) ∈ kvs → Q (.ref b) H) ∧ (y ∉ kvs.map (·.1) → Q (.ref t) (upd H a (.dK (kvL (kvs ++ [(y, t)])))))
theorem mt_setD : MtM X "dict.setdefault" rSetD := by
  intro pins s σ H x vs v us Q I rx rv h
  obtain ⟨a, kvs, y, t, rfl, rfl, ha, hl, q1, q2⟩ := h
  cases rx
  obtain ⟨u, v, rfl, ru, rt⟩ := rv.two
  obtain ⟨z, hd, vs, rel, dd⟩ := dk_of I.hok ha
  have hz : vs.length ≤ sizeLine := by rw [← rel.length]; exact z
  refine call_meetsIn PySem.F.slot_dict_setdefault dd.typeIs PySem.F.entry_dict_setdefault (PySem.F.args_dict_setdefault_3 _ _ _) (kt_meets_setdefault (mixKind X.prog X.w) a (kV_is (k := Sum.inl (y : Int)) ru) hd v) ⟨vs, dd, hz, fun w' hw => ?_, fun hn h' dd' hs => ?_⟩
  · have r := rel.val (Sum.inl (y : Int))
    rw [hw] at r
    cases e : valV (kvL kvs) (Sum.inl (y : Int)) with
    | none => rw [e] at r; exact (show False from r).elim
    | some v0 =>
      rw [e] at r
      obtain ⟨b, hb, rfl⟩ := valV_is e
      exact ⟨.ref b, H, I.tok _, r, q1 b hb⟩
  · have hnone : valV (kvL kvs) (Sum.inl (y : Int)) = none := by
      have r := rel.val (Sum.inl (y : Int))
      rw [hn] at r
      cases e : valV (kvL kvs) (Sum.inl (y : Int)) with
      | none => rfl
      | some v0 => rw [e] at r; exact (show False from r).elim
    have hk : y ∉ kvs.map (·.1) := fun hm => by
      obtain ⟨kv, h1, h2⟩ := List.mem_map.mp hm
      have e2 : ∃ v0, valV (kvL kvs) (Sum.inl (y : Int)) = some v0 := by
        rw [← Option.isSome_iff_exists, ← valV_any, List.any_eq_true]
        exact ⟨_, List.mem_map.mpr ⟨kv, h1, rfl⟩, decide_eq_true (by rw [← h2])⟩
      obtain ⟨v0, e2⟩ := e2
      rw [hnone] at e2
      cases e2
    have ep : putK (kvL kvs) (Sum.inl (y : Int)) (V.ref t) = kvL (kvs ++ [(y, t)]) := by rw [putK_new _ hnone, kvL, kvL, List.map_append]; rfl
    have hl2 : (kvL (kvs ++ [(y, t)])).length ≤ sizeLine := by rw [List.length_map, List.length_append, List.length_singleton]; omega
    have he : ∃ q, h'.get? a = some q := let ⟨q, _, _, hq, _⟩ := dd'; ⟨q, hq⟩
    have rel' := rel.put (Sum.inl (y : Int)) rt
    rw [ep] at rel'
    exact ⟨.ref t, _, d_write I (by rw [ha]; exact True.intro) hs he (dk_new hl2 hd rel' dd'), rt, q2 hk⟩

/-- xs.count(True), bools -/
def rCountT (K : PySem.W.Frag) : V → List V → Hp → VK → Prop := fun x vs H Q => ∃ (a : Addr) (bs : List Bool), x = .ref a ∧ vs = [.bl true] ∧ SqL K H a (bs.map V.bl) ∧ Q (.int (bs.countP id : Nat)) H
theorem mt_countT : MtM X "list.count" (rCountT X.K) := by
  intro pins s σ H x vs v us Q I rx rv h
  obtain ⟨a, bs, rfl, rfl, hs, q⟩ := h
  cases rx
  obtain ⟨u, rfl, ru⟩ := rv.one
  cases ru
  obtain ⟨its, r, ⟨⟨cls, dd, data, sl⟩, n, ho, hc, hdn, hd⟩, hlen⟩ := I.list hs
  simp only at hc hd
  subst hc hd
  have eb : its = bs.map Value.bool := r.bls
  have ev : ∀ y, y ∈ its.toArray → SeqAt.EqAt X.A.in1 s y (.bool true) (match y with | .bool b => b | _ => false) := fun y hy => by
    rw [List.mem_toArray, eb] at hy
    obtain ⟨b, _, rfl⟩ := List.mem_map.mp hy
    have h1 := eqAt_V (A := X.A.in1) (s := s) (y := .bl b) (x := .bl true) (u := .bool b) (v := .bool true) rfl rfl rfl rfl
    have h2 : eqV (.bl b) (.bl true) = b := by cases b <;> rfl
    rw [h2] at h1
    exact h1
  refine call_meets F.slot_list_count ⟨_, ho, rfl⟩ F.entry_list_count (F.args_list_count_2 _ _) (SeqAt.list_countAt a its.toArray n dd sl (.bool true) (fun y => match y with | .bool b => b | _ => false)) ⟨ho, ev, ?_⟩
  have ec : (its.toArray.toList.countP fun y => match y with | .bool b => b | _ => false) = bs.countP id := by
    show its.countP _ = _
    rw [eb, List.countP_map]
    rfl
  rw [ec]
  exact ⟨.int (bs.countP id : Nat), H, I.tok _, ⟨_, rfl⟩, q⟩
end
end Rv
end
section
set_option Elab.async false
set_option linter.all false
set_option maxRecDepth 100000
set_option maxHeartbeats 4000000
namespace Rv
open PySem PySem.Spec PyProof.Rows L2 RvM

abbrev sMessage : Stmt := top 25
abbrev sSend : Stmt := top 26
abbrev sNumberOf : Stmt := top 27
abbrev sFramed : Stmt := top 28
abbrev sKeepOut : Stmt := top 29
abbrev sHad : Stmt := top 30

/-- a def of the text, called by its name -/
def Cal (P : Program) (w : World) (K : PySem.W.Frag) (mg : Str → Option Value) (base : Heap) (x : Str) (k : Nat) (ps : List Str) (sp : Sp) : Prop :=
  ∃ (f : Addr) (fd : FuncData), mg x = some (.ref f) ∧ PySem.W.keepIn K (.ref f) = true ∧ Binds K fd ps [] ∧ FnOk P w K mg base CX0 k f fd ps sp
theorem pe_cal {X : Cx} {x : Str} {k : Nat} {ps : List Str} {sp : Sp} {e : Expr} {es : List Expr} {t : TA} {p pos : Pos} (C : Cal X.prog X.w X.K X.mg X.base x k ps sp) (hr : Room k X.A) (hg : Gl X x) (ha : PA X (e :: es) t) (hdb : (x == ("__debug__" : Str)) = false := by decide)
    (he : starEach (e :: es) X.env = (false, eval e X.env) :: starEach es X.env := by rfl) (hpl : (backTo pos (starEach es X.env)).any (·.1) = false := by rfl) :
    PE X (.Call (.Name x p) (e :: es) [] pos) (tCall sp [] E0 t) := by
  obtain ⟨f, fd, hm, hk, hb, F⟩ := C
  exact pe_call F hr hg hm hk hb .nil pass0 ha hdb he hpl

/-! ### messages -/
/-- a new list of numbers is handed back, all that was stays -/
def NewList (H : Hp) (Q : VK) (xs : List V) : Prop := ∀ (H' : Hp) (p : Addr), Same H H' → H p = none → H' p = some (.lst xs) → Q (.ref p) H'
theorem same_upd {H : Hp} {p : Addr} {o : HO} (h : H p = none) : Same H (upd H p o) := fun b u e => by rw [upd_ne (ne_of_none e h)]; exact e
theorem line_small {n : Nat} (h : n ≤ 100000) : n ≤ sizeLine := by rw [sizeLine_eq]; omega

def msg (k n a b : Nat) : List Nat := [k, 0, n % 256, n / 256, a, b, 0, 0]
def spMessage : Sp := fun vs H Q _ => ∃ k n a b : Nat, vs = [vI k, vI n, vI a, vI b] ∧ NewList H Q (nL (msg k n a b))
section
variable {P : Program} {w : World} {K : PySem.W.Frag} {mg : Str → Option Value} {base : Heap}
theorem scMessage : FnScope ["kind", "number", "first", "second"] ["kind", "number", "first", "second"] (defScope sMessage) := ⟨rfl, rfl, rfl, by decide +kernel, rfl, by decide +kernel, by decide +kernel⟩
theorem ok_message {f : Addr} {fd : FuncData} (F : Fun K "message" "message" sMessage f fd) : FnOk P w K mg base CX0 1 f fd ["kind", "number", "first", "second"] spMessage := by
  refine F.ok scMessage (fun vs H Q E h => ?_) (fun cdv A outer s H vs Q E hr h => ?_)
  · obtain ⟨k, n, a, b, rfl, _⟩ := h
    rfl
  · obtain ⟨k, n, a, b, rfl, q⟩ := h
    refine ⟨_, pss_one (ps_ret (pe_lst (pa_cons (pv 0) (pa_cons pe_int (pa_cons (pe_op op_mod (pv 1) pe_int) (pa_cons (pe_op op_fdiv (pv 1) pe_int) (pa_cons (pv 2) (pa_cons (pv 3) (pa_cons pe_int (pa_cons pe_int pa_nil)))))))))), ?_⟩
    refine ⟨_, rfl, _, rfl, _, _, rfl, rfl, (by show (0 : Int) < 256; decide), _, rfl, _, _, rfl, rfl, ⟨by decide, by decide⟩, _, rfl, _, rfl, (by show 8 ≤ sizeLine; decide), fun p hp => ?_⟩
    exact q _ p (same_upd hp) hp upd_same

structure Gs (mg : Str → Option Value) : Prop where
  KEEP_OUT : ∃ t, mg "KEEP_OUT" = some (Value.int 1 t)
  HAD : ∃ t, mg "HAD" = some (Value.int 2 t)
  SEEN : ∃ t, mg "SEEN" = some (Value.int 3 t)
  ANSWER : ∃ t, mg "ANSWER" = some (Value.int 4 t)
  LENGTH : ∃ t, mg "LENGTH" = some (Value.int 8 t)
  SENT : ∃ t, mg "SENT" = some (Value.int 3 t)
  CLOSED : ∃ t, mg "CLOSED" = some (Value.int 255 t)
  LONGEST_SIDE : ∃ t, mg "LONGEST_SIDE" = some (Value.int 16 t)
  SHARE : ∃ t, mg "SHARE" = some (Value.int 1024 t)
  BAD_MESSAGE : ∃ t, mg "BAD_MESSAGE" = some (Value.int (-71) t)
  TICKS_APART : ∃ t, mg "TICKS_APART" = some (Value.int 5 t)
  LOOKED : ∃ t, mg "LOOKED" = some (Value.int 1 t)
  TO_GOAL : ∃ t, mg "TO_GOAL" = some (Value.int 2 t)
  TO_HOME : ∃ t, mg "TO_HOME" = some (Value.int 3 t)
  FILLED : ∃ t, mg "FILLED" = some (Value.int 4 t)
  NOTHING : ∃ t, mg "NOTHING" = some (Value.int 0 t)
  SAW : ∃ t, mg "SAW" = some (Value.int 0 t)
  WENT : ∃ t, mg "WENT" = some (Value.int 1 t)
  CHARGED : ∃ t, mg "CHARGED" = some (Value.int 2 t)
  NO : ∃ t, mg "NO" = some (Value.int 0 t)
  YES : ∃ t, mg "YES" = some (Value.int 1 t)
  len : mg "len" = none
  range : mg "range" = none
  min : mg "min" = none
  sorted : mg "sorted" = none
  set : mg "set" = none

def spSend : Sp := fun vs H Q _ => ∃ k n a b : Nat, vs = [vI k, vI n, vI a, vI b] ∧ NewList H Q (nL (3 :: msg k n a b))
theorem scSend : FnScope ["kind", "number", "first", "second"] ["kind", "number", "first", "second"] (defScope sSend) := ⟨rfl, rfl, rfl, by decide +kernel, rfl, by decide +kernel, by decide +kernel⟩
theorem ok_send {f : Addr} {fd : FuncData} (F : Fun K "send" "send" sSend f fd) (G : Gs mg) (CM : Cal P w K mg base "message" 1 ["kind", "number", "first", "second"] spMessage) : FnOk P w K mg base CX0 2 f fd ["kind", "number", "first", "second"] spSend := by
  refine F.ok scSend (fun vs H Q E h => ?_) (fun cdv A outer s H vs Q E hr h => ?_)
  · obtain ⟨k, n, a, b, rfl, _⟩ := h
    rfl
  · obtain ⟨k, n, a, b, rfl, q⟩ := h
    refine ⟨_, pss_one (ps_ret (pe_op op_cat (pe_lst (pa_cons (pe_gi rfl G.SENT) pa_nil)) (pe_cal CM hr rfl (pa_cons (pv 0) (pa_cons (pv 1) (pa_cons (pv 2) (pa_cons (pv 3) pa_nil))))))), ?_⟩
    refine ⟨(by show 1 ≤ sizeLine; decide), fun p hp => ⟨_, rfl, _, rfl, _, rfl, _, rfl, k, n, a, b, rfl, fun H' p' s' hp' e' => ?_⟩⟩
    refine ⟨p, p', _, _, rfl, rfl, s' _ _ upd_same, e', (by show 1 + 8 ≤ sizeLine; decide), fun r hr' => ?_⟩
    have s1 : Same H H' := (same_upd hp).trans s'
    exact q _ r (s1.trans (same_upd hr')) (s1.free hr') upd_same

/-- a list of numbers stands at a -/
abbrev NumsAt (H : Hp) (a : Addr) (b : List Nat) : Prop := H a = some (.lst (nL b))
theorem nums_at {b : List Nat} {i : Nat} (h : i < b.length) : atI (nL b) ((i : Nat) : Int) = some (vI (b.getD i 0)) := by
  refine atI_nat ?_
  rw [List.getElem?_map, List.getD_eq_getElem?_getD, List.getElem?_eq_getElem h]
  rfl
def spNumberOf (K : PySem.W.Frag) : Sp := fun vs H Q _ => ∃ (a : Addr) (b : List Nat), vs = [.ref a] ∧ SqL K H a (nL b) ∧ b.length = 8 ∧ Q (vI (numOf b)) H
theorem scNumberOf : FnScope ["m"] ["m"] (defScope sNumberOf) := ⟨rfl, rfl, rfl, by decide +kernel, rfl, by decide +kernel, by decide +kernel⟩
theorem ok_numberOf {f : Addr} {fd : FuncData} (F : Fun K "number_of" "number_of" sNumberOf f fd) : FnOk P w K mg base CX0 1 f fd ["m"] (spNumberOf K) := by
  refine F.ok scNumberOf (fun vs H Q E h => ?_) (fun cdv A outer s H vs Q E hr h => ?_)
  · obtain ⟨a, b, rfl, _⟩ := h
    rfl
  · obtain ⟨a, b, rfl, hs, hl, q⟩ := h
    refine ⟨_, pss_one (ps_ret (pe_op op_add (pe_ix ix_list (pv 0) pe_int (fun _ _ => rfl)) (pe_op op_mul pe_int (pe_ix ix_list (pv 0) pe_int (fun _ _ => rfl))))), ?_⟩
    refine ⟨_, rfl, a, _, _, _, rfl, rfl, hs, nums_at (i := 2) (by omega), _, rfl, a, _, _, _, rfl, rfl, hs, nums_at (i := 3) (by omega), _, _, rfl, rfl, .inl ⟨by decide, by decide⟩, _, _, rfl, rfl, ?_⟩
    exact q

theorem d_eq {i j : Int} (h : decide (V.int i = V.int j) = true) : i = j := V.int.inj (of_decide_eq_true h)
theorem d_ne {i j : Int} (h : ¬ decide (V.int i = V.int j) = true) : i ≠ j := fun e => h (decide_eq_true (congrArg V.int e))
theorem n_ne {i j : Int} (h : (!decide (V.int i = V.int j)) = true) : i ≠ j := fun e => by rw [decide_eq_true (congrArg V.int e)] at h; cases h
theorem n_eq {i j : Int} (h : ¬ (!decide (V.int i = V.int j)) = true) : i = j := Classical.byContradiction fun e => h (by rw [decide_eq_false (fun q => e (V.int.inj q))]; rfl)
def spFramed (K : PySem.W.Frag) : Sp := fun vs H Q _ => ∃ (a : Addr) (b : List Nat) (k : Nat), vs = [.ref a, vI k] ∧ SqL K H a (nL b) ∧ Q (.bl (framed b k)) H
theorem scFramed : FnScope ["m", "kind"] ["m", "kind"] (defScope sFramed) := ⟨rfl, rfl, rfl, by decide +kernel, rfl, by decide +kernel, by decide +kernel⟩
theorem framed_no {b : List Nat} {k : Nat} (h : ¬ (b.length = 8 ∧ b.getD 0 0 = k ∧ numOf b ≠ 0 ∧ b.getD 1 0 = 0 ∧ b.getD 6 0 = 0 ∧ b.getD 7 0 = 0)) : framed b k = false := by
  rw [← Bool.not_eq_true]
  intro q
  unfold framed at q
  simp only [Bool.and_eq_true, beq_iff_eq, bne_iff_ne, and_assoc] at q
  exact h q
theorem framed_yes {b : List Nat} {k : Nat} (h : b.length = 8 ∧ b.getD 0 0 = k ∧ numOf b ≠ 0 ∧ b.getD 1 0 = 0 ∧ b.getD 6 0 = 0 ∧ b.getD 7 0 = 0) : framed b k = true := by
  unfold framed
  simp only [Bool.and_eq_true, beq_iff_eq, bne_iff_ne, and_assoc]
  exact h
theorem ok_framed {f : Addr} {fd : FuncData} (F : Fun K "is_framed" "is_framed" sFramed f fd) (G : Gs mg) (CN : Cal P w K mg base "number_of" 1 ["m"] (spNumberOf K)) : FnOk P w K mg base CX0 2 f fd ["m", "kind"] (spFramed K) := by
  refine F.ok scFramed (fun vs H Q E h => ?_) (fun cdv A outer s H vs Q E hr h => ?_)
  · obtain ⟨a, b, k, rfl, _⟩ := h
    rfl
  · obtain ⟨a, b, k, rfl, hs, q⟩ := h
    refine ⟨_, pss_cons (ps_if (PW.pt (pw_or (pt_cmpR op_ne (pe_callB call_len_seq (by rfl) G.len PySem.boot_len (pa_cons (pv 0) pa_nil)) (pe_gi rfl G.LENGTH) (nomark _))
        (pw_or (pt_cmpR op_ne (pe_ix ix_list (pv 0) pe_int (fun _ _ => rfl)) (pv 1) (nomark _)) (pw_or1 (pt_cmpR op_eq (pe_cal CN hr rfl (pa_cons (pv 0) pa_nil)) pe_int (nomark _)))))) (pss_one (ps_ret pe_bl)) pss_nil)
      (pss_one (ps_ret (pe_and (pe_cmpR op_eq (pe_ix ix_list (pv 0) pe_int (fun _ _ => rfl)) pe_int (nomark _)) (pe_and (pe_cmpR op_eq (pe_ix ix_list (pv 0) pe_int (fun _ _ => rfl)) pe_int (nomark _)) (pe_one (pe_cmpR op_eq (pe_ix ix_list (pv 0) pe_int (fun _ _ => rfl)) pe_int (nomark _))))))), ?_⟩
    refine ⟨_, rfl, a, _, rfl, .inl hs, rfl, _, rfl, ite2 (fun hc => iteT ?_) (fun hc => ?_)⟩
    · have h8 := n_ne hc
      rw [List.length_map] at h8
      have e := framed_no (b := b) (k := k) (fun z => h8 (by rw [z.1]; rfl))
      rw [e] at q
      exact q
    · have h8 : b.length = 8 := by
        have := n_eq hc
        rw [List.length_map] at this
        omega
      refine ⟨_, rfl, a, _, _, _, rfl, rfl, hs, nums_at (i := 0) (by omega), _, rfl, rfl, _, rfl, ite2 (fun hc => iteT ?_) (fun hc2 => ?_)⟩
      · have h0 := n_ne hc
        have e := framed_no (b := b) (k := k) (fun z => h0 (by rw [z.2.1]))
        rw [e] at q
        exact q
      · have h0 := n_eq hc2
        refine ⟨_, rfl, a, b, rfl, hs, h8, rfl, _, rfl, ite2 (fun hc => ?_) (fun hc3 => ?_)⟩
        · have hn := d_eq hc
          have e := framed_no (b := b) (k := k) (fun z => z.2.2.1 (by omega))
          rw [e] at q
          exact q
        · have hn := d_ne hc3
          refine ⟨_, rfl, a, _, _, _, rfl, rfl, hs, nums_at (i := 1) (by omega), rfl, _, rfl, ite2 (fun hc => ?_) (fun hc => ?_)⟩
          · have h1 := d_eq hc
            refine ⟨_, rfl, a, _, _, _, rfl, rfl, hs, nums_at (i := 6) (by omega), rfl, _, rfl, ite2 (fun hc => ?_) (fun hc => ?_)⟩
            · have h6 := d_eq hc
              refine ⟨_, rfl, a, _, _, _, rfl, rfl, hs, nums_at (i := 7) (by omega), rfl, ?_⟩
              show Q (.bl (decide (V.int ((b.getD 7 0 : Nat) : Int) = V.int 0))) H
              by_cases h7 : b.getD 7 0 = 0
              · rw [decide_eq_true (by rw [h7]; rfl)]
                rw [framed_yes ⟨h8, by omega, by omega, by omega, by omega, h7⟩] at q
                exact q
              · rw [decide_eq_false (fun z => h7 (by have := V.int.inj z; omega))]
                rw [framed_no (fun z => h7 z.2.2.2.2.2)] at q
                exact q
            · have h6 := d_ne hc
              rw [framed_no (fun z => h6 (by rw [z.2.2.2.2.1]; rfl))] at q
              exact q
          · have h1 := d_ne hc
            rw [framed_no (fun z => h1 (by rw [z.2.2.2.1]; rfl))] at q
            exact q
def spKeepOut (K : PySem.W.Frag) : Sp := fun vs H Q _ => ∃ (a : Addr) (b : List Nat) (n : Nat), vs = [.ref a, vI n] ∧ SqL K H a (nL b) ∧ Q (.bl (isOut n b)) H
theorem scKeepOut : FnScope ["m", "size"] ["m", "size"] (defScope sKeepOut) := ⟨rfl, rfl, rfl, by decide +kernel, rfl, by decide +kernel, by decide +kernel⟩
theorem framed_len {b : List Nat} {k : Nat} (h : framed b k = true) : b.length = 8 := by
  unfold framed at h
  simp only [Bool.and_eq_true, beq_iff_eq, and_assoc] at h
  exact h.1
theorem ok_keepOut {f : Addr} {fd : FuncData} (F : Fun K "is_keep_out" "is_keep_out" sKeepOut f fd) (G : Gs mg) (CF : Cal P w K mg base "is_framed" 2 ["m", "kind"] (spFramed K)) : FnOk P w K mg base CX0 3 f fd ["m", "size"] (spKeepOut K) := by
  refine F.ok scKeepOut (fun vs H Q E h => ?_) (fun cdv A outer s H vs Q E hr h => ?_)
  · obtain ⟨a, b, k, rfl, _⟩ := h
    rfl
  · obtain ⟨a, b, n, rfl, hs, q⟩ := h
    refine ⟨_, pss_one (ps_ret (pe_and (pe_cal CF hr rfl (pa_cons (pv 0) (pa_cons (pe_gi rfl G.KEEP_OUT) pa_nil))) (pe_and (pe_cmpR op_lt (pe_ix ix_list (pv 0) pe_int (fun _ _ => rfl)) (pv 1) (nomark _)) (pe_one (pe_cmpR op_eq (pe_ix ix_list (pv 0) pe_int (fun _ _ => rfl)) pe_int (nomark _)))))), ?_⟩
    refine ⟨_, rfl, a, b, 1, rfl, hs, _, rfl, ite2 (fun hc => ?_) (fun hc => ?_)⟩
    · have h8 := framed_len hc
      refine ⟨_, rfl, a, _, _, _, rfl, rfl, hs, nums_at (i := 4) (by omega), _, rfl, _, _, rfl, rfl, _, rfl, ite2 (fun hc4 => ?_) (fun hc4 => ?_)⟩
      · have h4 := of_decide_eq_true hc4
        refine ⟨_, rfl, a, _, _, _, rfl, rfl, hs, nums_at (i := 5) (by omega), rfl, ?_⟩
        have e : isOut n b = decide (V.int ((b.getD 5 0 : Nat) : Int) = V.int 0) := by
          unfold isOut
          rw [hc, decide_eq_true (show b.getD 4 0 < n by omega), dec_int]
          simp only [Bool.true_and]
          by_cases h5 : b.getD 5 0 = 0
          · rw [h5]; rfl
          · have h6 : ¬ ((b.getD 5 0 : Nat) : Int) = 0 := by omega
            rw [beq_eq_false_iff_ne.mpr h5, beq_eq_false_iff_ne.mpr h6]
        rw [e] at q
        exact q
      · have h4 : ¬ b.getD 4 0 < n := fun z => hc4 (decide_eq_true (by omega))
        have e : isOut n b = false := by
          unfold isOut
          rw [decide_eq_false h4]
          simp
        rw [e] at q
        exact q
    · have e : isOut n b = false := by
        unfold isOut
        rw [Bool.not_eq_true] at hc
        rw [hc]
        simp
      rw [e] at q
      exact q
def spHad (K : PySem.W.Frag) : Sp := fun vs H Q _ => ∃ (a : Addr) (b : List Nat), vs = [.ref a] ∧ SqL K H a (nL b) ∧ Q (.bl (isHad b)) H
theorem scHad : FnScope ["m"] ["m"] (defScope sHad) := ⟨rfl, rfl, rfl, by decide +kernel, rfl, by decide +kernel, by decide +kernel⟩
theorem beq_nat {x : Nat} : decide (V.int ((x : Nat) : Int) = V.int 0) = (x == 0) := by
  rw [dec_int]
  by_cases h5 : x = 0
  · rw [h5]; rfl
  · have h6 : ¬ ((x : Nat) : Int) = 0 := by omega
    rw [beq_eq_false_iff_ne.mpr h5, beq_eq_false_iff_ne.mpr h6]
theorem ok_had {f : Addr} {fd : FuncData} (F : Fun K "is_had" "is_had" sHad f fd) (G : Gs mg) (CF : Cal P w K mg base "is_framed" 2 ["m", "kind"] (spFramed K)) : FnOk P w K mg base CX0 3 f fd ["m"] (spHad K) := by
  refine F.ok scHad (fun vs H Q E h => ?_) (fun cdv A outer s H vs Q E hr h => ?_)
  · obtain ⟨a, b, rfl, _⟩ := h
    rfl
  · obtain ⟨a, b, rfl, hs, q⟩ := h
    refine ⟨_, pss_one (ps_ret (pe_and (pe_cal CF hr rfl (pa_cons (pv 0) (pa_cons (pe_gi rfl G.HAD) pa_nil))) (pe_and (pe_cmpR op_eq (pe_ix ix_list (pv 0) pe_int (fun _ _ => rfl)) pe_int (nomark _)) (pe_one (pe_cmpR op_eq (pe_ix ix_list (pv 0) pe_int (fun _ _ => rfl)) pe_int (nomark _)))))), ?_⟩
    refine ⟨_, rfl, a, b, 2, rfl, hs, _, rfl, ite2 (fun hc => ?_) (fun hc => ?_)⟩
    · have h8 := framed_len hc
      refine ⟨_, rfl, a, _, _, _, rfl, rfl, hs, nums_at (i := 4) (by omega), rfl, _, rfl, ite2 (fun hc4 => ?_) (fun hc4 => ?_)⟩
      · refine ⟨_, rfl, a, _, _, _, rfl, rfl, hs, nums_at (i := 5) (by omega), rfl, ?_⟩
        have e : isHad b = decide (V.int ((b.getD 5 0 : Nat) : Int) = V.int 0) := by
          rw [beq_nat] at hc4
          unfold isHad
          rw [hc, hc4, beq_nat]
          simp
        rw [e] at q
        exact q
      · have e : isHad b = false := by
          rw [beq_nat, Bool.not_eq_true] at hc4
          unfold isHad
          rw [hc4]
          simp
        rw [e] at q
        exact q
    · have e : isHad b = false := by
        unfold isHad
        rw [Bool.not_eq_true] at hc
        rw [hc]
        simp
      rw [e] at q
      exact q
end
end Rv
end
section
set_option Elab.async false
set_option linter.all false
set_option maxRecDepth 100000
set_option maxHeartbeats 4000000
namespace Rv
open PySem PySem.Spec PyProof.Rows L2 RvM
abbrev sSides : Stmt := top 6
abbrev sNeighbours : Stmt := top 8
abbrev sAllNb : Stmt := top 9
abbrev sWeight : Stmt := top 10
abbrev sLightest : Stmt := top 11
abbrev sTaken : Stmt := top 12
abbrev sSecond : Stmt := top 13
section
variable {P : Program} {w : World} {K : PySem.W.Frag} {mg : Str → Option Value} {base : Heap}
def spSides : Sp := fun vs H Q _ => ∃ (x y : Nat), vs = [vI x, vI y] ∧ Q (.bl (Sr37.okSize x && Sr37.okSize y)) H
theorem scSides : FnScope ["width", "height"] ["width", "height"] (defScope sSides) := ⟨rfl, rfl, rfl, by decide +kernel, rfl, by decide +kernel, by decide +kernel⟩
theorem ok_sides {f : Addr} {fd : FuncData} (F : Fun K "sides_fit" "sides_fit" sSides f fd) (G : Gs mg) : FnOk P w K mg base CX0 1 f fd ["width", "height"] spSides := by
  refine F.ok scSides (fun vs H Q E h => ?_) (fun cdv A outer s H vs Q E hr h => ?_)
  · obtain ⟨x, y, rfl, _⟩ := h
    rfl
  · obtain ⟨x, y, rfl, q⟩ := h
    refine ⟨_, pss_one (ps_ret (pe_and (pe_chain op_le op_le pe_int (pv 0) (pe_gi rfl G.LONGEST_SIDE)) (pe_one (pe_chain op_le op_le pe_int (pv 1) (pe_gi rfl G.LONGEST_SIDE))))), ?_⟩
    have dd : ∀ z : Nat, Sr37.okSize z = (decide ((1 : Int) ≤ (z : Int)) && decide ((z : Int) ≤ 16)) := fun z => by
      unfold Sr37.okSize
      rw [show decide ((1 : Int) ≤ (z : Int)) = decide (1 ≤ z) from decide_eq_decide.mpr (by omega), show decide ((z : Int) ≤ 16) = decide (z ≤ 16) from decide_eq_decide.mpr (by omega)]
    rw [dd x, dd y] at q
    refine ⟨_, rfl, _, _, rfl, rfl, _, rfl, ite2 (fun h1 => ?_) (fun h1 => ?_)⟩
    · refine ⟨_, _, rfl, rfl, _, rfl, ite2 (fun h2 => ?_) (fun h2 => ?_)⟩
      · refine ⟨_, rfl, _, _, rfl, rfl, _, rfl, ite2 (fun h3 => ?_) (fun h3 => ?_)⟩
        · refine ⟨_, _, rfl, rfl, ?_⟩
          rw [h1, h2, h3] at q
          exact q
        · rw [h1, h2, Bool.not_eq_true _ |>.mp h3] at q
          exact q
      · rw [h1, Bool.not_eq_true _ |>.mp h2] at q
        exact q
    · refine ⟨_, rfl, iteF ?_⟩
      rw [Bool.not_eq_true _ |>.mp h1] at q
      exact q

def spNeighbours : Sp := fun vs H Q _ => ∃ (x y c : Nat), vs = [vI x, vI y, vI c] ∧ 1 ≤ x ∧ x ≤ 16 ∧ y ≤ 16 ∧ NewList H Q (nL (nbs x y c))
theorem scNeighbours : FnScope ["width", "height", "cell", "column", "found"] ["width", "height", "cell"] (defScope sNeighbours) := ⟨rfl, rfl, rfl, by decide +kernel, rfl, by decide +kernel, by decide +kernel⟩
theorem ok_neighbours {f : Addr} {fd : FuncData} (F : Fun K "neighbours" "neighbours" sNeighbours f fd) : FnOk P w K mg base CX0 1 f fd ["width", "height", "cell"] spNeighbours := by
  refine F.ok scNeighbours (fun vs H Q E h => ?_) (fun cdv A outer s H vs Q E hr h => ?_)
  · obtain ⟨x, y, c, rfl, _⟩ := h
    rfl
  · obtain ⟨x, y, c, rfl, hx1, hx2, hy, q⟩ := h
    refine ⟨_, pss_cons (ps_set (i := 3) scNeighbours.nd rfl (Or.inl rfl) (pe_op op_mod (pv 2) (pv 0)))
      (pss_cons (ps_set (i := 4) scNeighbours.nd rfl (Or.inl rfl) (pe_lst pa_nil))
      (pss_cons (ps_if (pt_cmpR op_ge (pv 2) (pv 0) (nomark _)) (pss_one (ps_expr (pe_bm PySem.F.plainAttrs_list PySem.F.slot_list_append PySem.F.type_list_append mt_append (pv 4) (pa_cons (pe_op op_sub (pv 2) (pv 0)) pa_nil)))) pss_nil)
      (pss_cons (ps_if (pt_cmpR op_gt (pv 3) pe_int (nomark _)) (pss_one (ps_expr (pe_bm PySem.F.plainAttrs_list PySem.F.slot_list_append PySem.F.type_list_append mt_append (pv 4) (pa_cons (pe_op op_sub (pv 2) pe_int) pa_nil)))) pss_nil)
      (pss_cons (ps_if (pt_cmpR op_lt (pv 3) (pe_op op_sub (pv 0) pe_int) (nomark _)) (pss_one (ps_expr (pe_bm PySem.F.plainAttrs_list PySem.F.slot_list_append PySem.F.type_list_append mt_append (pv 4) (pa_cons (pe_op op_add (pv 2) pe_int) pa_nil)))) pss_nil)
      (pss_cons (ps_if (pt_cmpR op_lt (pe_op op_add (pv 2) (pv 0)) (pe_op op_mul (pv 0) (pv 1)) (nomark _)) (pss_one (ps_expr (pe_bm PySem.F.plainAttrs_list PySem.F.slot_list_append PySem.F.type_list_append mt_append (pv 4) (pa_cons (pe_op op_add (pv 2) (pv 0)) pa_nil)))) pss_nil)
      (pss_one (ps_ret (pv 4)))))))), ?_⟩
    refine ⟨_, rfl, _, rfl, _, _, rfl, rfl, (by show (0 : Int) < (x : Int); omega), Nat.zero_le _, fun p hp => ?_⟩
    have hmod : c % x ≤ c := Nat.mod_le _ _
    have em : ((c : Int) % (x : Int)) = ((c % x : Nat) : Int) := rfl
    have ey : ((x : Int) * (y : Int)) = ((x * y : Nat) : Int) := rfl
    have fin : ∀ xs, xs = nL (nbs x y c) → ∀ H1, Same H H1 → H1 p = some (.lst xs) → Q (.ref p) H1 := fun xs e H1 s1 h1 => q H1 p s1 hp (by rw [← e]; exact h1)
    have s0 : Same H (upd H p (.lst [])) := same_upd hp
    have keep : ∀ (H1 : Hp) (xs : List V), Same H H1 → Same H (upd H1 p (.lst xs)) := fun H1 xs s1 b o e => by rw [upd_ne (ne_of_none e hp)]; exact s1 b o e
    refine ⟨_, rfl, _, rfl, _, _, rfl, rfl, _, rfl, ite2 (fun h1 => ⟨_, rfl, .inl ⟨rfl, _, SqL.of upd_same⟩, _, rfl, _, rfl, _, _, rfl, rfl, p, _, _, rfl, rfl, upd_same, (by show 0 < sizeLine; decide), ?_⟩) (fun h1 => ?_)⟩
    all_goals refine ⟨_, rfl, _, _, rfl, rfl, _, rfl, ite2 (fun h2 => ⟨_, rfl, .inl ⟨rfl, _, SqL.of upd_same⟩, _, rfl, _, _, rfl, rfl, p, _, _, rfl, rfl, upd_same, (line_small (Nat.le_of_lt (by simp))), ?_⟩) (fun h2 => ?_)⟩
    all_goals refine ⟨_, rfl, _, rfl, _, _, rfl, rfl, _, _, rfl, rfl, _, rfl, ite2 (fun h3 => ⟨_, rfl, .inl ⟨rfl, _, SqL.of upd_same⟩, _, rfl, _, _, rfl, rfl, p, _, _, rfl, rfl, upd_same, (line_small (Nat.le_of_lt (by simp))), ?_⟩) (fun h3 => ?_)⟩
    all_goals refine ⟨_, rfl, _, rfl, _, _, rfl, rfl, _, rfl, _, rfl, _, _, rfl, rfl, .inl ⟨by omega, by omega⟩, _, _, rfl, rfl, _, rfl, ite2 (fun h4 => ⟨_, rfl, .inl ⟨rfl, _, SqL.of upd_same⟩, _, rfl, _, rfl, _, _, rfl, rfl, p, _, _, rfl, rfl, upd_same, (line_small (Nat.le_of_lt (by simp))), ?_⟩) (fun h4 => ?_)⟩
    all_goals (
      have g1 := h1
      have g2 := h2
      have g3 := h3
      have g4 := h4
      rw [decide_eq_true_eq] at g1 g2 g3 g4
      rw [em] at g2 g3
      rw [ey] at g4
      refine ⟨_, rfl, fin _ ?_ _ (by first | exact s0 | exact keep _ _ s0 | exact keep _ _ (keep _ _ s0) | exact keep _ _ (keep _ _ (keep _ _ s0)) | exact keep _ _ (keep _ _ (keep _ _ (keep _ _ s0)))) upd_same⟩
      unfold nbs
      first | rw [if_pos (show x ≤ c by omega)] | rw [if_neg (show ¬ x ≤ c by omega)]
      first | rw [if_pos (show 0 < c % x by omega)] | rw [if_neg (show ¬ 0 < c % x by omega)]
      first | rw [if_pos (show c % x + 1 < x by omega)] | rw [if_neg (show ¬ c % x + 1 < x by omega)]
      first | rw [if_pos (show c + x < x * y by omega)] | rw [if_neg (show ¬ c + x < x * y by omega)]
      simp only [List.nil_append, List.cons_append, List.append_nil, List.map_cons, List.map_nil, List.cons.injEq, V.int.injEq, and_true, true_and])
    all_goals first | rfl | omega
def spWeight : Sp := fun vs H Q _ => ∃ (c : Nat) (k : Bool), vs = [vI c, .bl k] ∧ Q (vI (if c = 0 ∨ c = 255 ∨ k = true then 0 else 1024 * c + 1)) H
theorem scWeight : FnScope ["cost", "kept_out"] ["cost", "kept_out"] (defScope sWeight) := ⟨rfl, rfl, rfl, by decide +kernel, rfl, by decide +kernel, by decide +kernel⟩
theorem ok_weight {f : Addr} {fd : FuncData} (F : Fun K "weight" "weight" sWeight f fd) (G : Gs mg) : FnOk P w K mg base CX0 1 f fd ["cost", "kept_out"] spWeight := by
  refine F.ok scWeight (fun vs H Q E h => ?_) (fun cdv A outer s H vs Q E hr h => ?_)
  · obtain ⟨c, k, rfl, _⟩ := h
    rfl
  · obtain ⟨c, k, rfl, q⟩ := h
    refine ⟨_, pss_cons (ps_if (PW.pt (pw_or (pt_cmpR op_eq (pv 0) pe_int (nomark _)) (pw_or (pt_cmpR op_eq (pv 0) (pe_gi rfl G.CLOSED) (nomark _)) (pw_or1 (pt_val (pv 1)))))) (pss_one (ps_ret pe_int)) pss_nil)
      (pss_one (ps_ret (pe_op op_add (pe_op op_mul (pe_gi rfl G.SHARE) (pv 0)) pe_int))), ?_⟩
    refine ⟨_, rfl, rfl, _, rfl, ite2 (fun h1 => iteT ?_) (fun h1 => ?_)⟩
    · rw [if_pos (.inl (by have := d_eq h1; omega))] at q
      exact q
    · refine ⟨_, rfl, rfl, _, rfl, ite2 (fun h2 => iteT ?_) (fun h2 => ?_)⟩
      · rw [if_pos (.inr (.inl (by have := d_eq h2; omega)))] at q
        exact q
      · refine ⟨_, rfl, k, rfl, ite2 (fun h3 => ?_) (fun h3 => ?_)⟩
        · rw [if_pos (.inr (.inr h3))] at q
          exact q
        · refine ⟨_, rfl, _, _, rfl, rfl, .inl ⟨by decide, by decide⟩, _, _, rfl, rfl, ?_⟩
          rw [if_neg (by rintro (e | e | e); exact d_ne h1 (by omega); exact d_ne h2 (by omega); exact h3 e)] at q
          exact q
def spTaken : Sp := fun vs H Q _ => ∃ (a b : Nat), vs = [vI a, vI b] ∧ Q (.int (takenI a b)) H
theorem scTaken : FnScope ["whole", "first"] ["whole", "first"] (defScope sTaken) := ⟨rfl, rfl, rfl, by decide +kernel, rfl, by decide +kernel, by decide +kernel⟩
theorem ok_taken {f : Addr} {fd : FuncData} (F : Fun K "taken" "taken" sTaken f fd) (G : Gs mg) : FnOk P w K mg base CX0 1 f fd ["whole", "first"] spTaken := by
  refine F.ok scTaken (fun vs H Q E h => ?_) (fun cdv A outer s H vs Q E hr h => ?_)
  · obtain ⟨c, k, rfl, _⟩ := h
    rfl
  · obtain ⟨c, k, rfl, q⟩ := h
    refine ⟨_, pss_one (ps_ret (pe_op op_fdiv (pe_op op_sub (pv 0) (pv 1)) (pe_gi rfl G.SHARE))), ?_⟩
    exact ⟨_, rfl, _, rfl, _, _, rfl, rfl, _, _, rfl, rfl, ⟨by decide, by decide⟩, q⟩
end
end Rv
end
section
set_option Elab.async false
set_option linter.all false
set_option maxRecDepth 100000
set_option maxHeartbeats 4000000
namespace Rv
open PySem PySem.Spec PyProof.Rows L2 RvM
section
variable {P : Program} {w : World} {K : PySem.W.Frag} {mg : Str → Option Value} {base : Heap}
/-- the lists of neighbours stand at as -/
def NbAt (H : Hp) (as : List Addr) (x y : Nat) : Prop := as.length = x * y ∧ ∀ (c : Nat) (a : Addr), as[c]? = some a → H a = some (.lst (nL (nbs x y c)))
def spAllNb : Sp := fun vs H Q _ => ∃ (x y : Nat), vs = [vI x, vI y] ∧ 1 ≤ x ∧ x ≤ 16 ∧ y ≤ 16 ∧
  ∀ (H' : Hp) (p : Addr) (as : List Addr), Same H H' → H p = none → H' p = some (.lst (as.map V.ref)) → NbAt H' as x y → (∀ a ∈ as, H a = none) → Q (.ref p) H'
theorem scAllNb : FnScope ["width", "height", "cell"] ["width", "height"] (defScope sAllNb) := ⟨rfl, rfl, rfl, by decide +kernel, rfl, by decide +kernel, by decide +kernel⟩
theorem snoc_get {α : Type} {l : List α} {x : α} {i : Nat} {y : α} (h : (l ++ [x])[i]? = some y) : (i < l.length ∧ l[i]? = some y) ∨ (i = l.length ∧ y = x) := by
  by_cases hi : i < l.length
  · rw [List.getElem?_append_left hi] at h
    exact .inl ⟨hi, h⟩
  · rw [List.getElem?_append_right (by omega)] at h
    cases e : i - l.length with
    | zero =>
      rw [e] at h
      exact .inr ⟨by omega, (Option.some.inj h).symm⟩
    | succ k => rw [e] at h; simp at h
theorem tYes_if {σ : L2.St} {H : Hp} {A B : Hp → Prop} (h : A H) : tYes σ H (fun b H3 => if b = true then A H3 else B H3) := by
  show if true = true then A H else B H
  rw [if_pos rfl]
  exact h
theorem mul_small {x y : Nat} (hx : x ≤ 16) (hy : y ≤ 16) : x * y ≤ 256 := Nat.mul_le_mul hx hy
theorem ok_allNb {f : Addr} {fd : FuncData} (F : Fun K "all_neighbours" "all_neighbours" sAllNb f fd) (G : Gs mg) (CN : Cal P w K mg base "neighbours" 1 ["width", "height", "cell"] spNeighbours) : FnOk P w K mg base CX0 2 f fd ["width", "height"] spAllNb := by
  refine F.ok scAllNb (fun vs H Q E h => ?_) (fun cdv A outer s H vs Q E hr h => ?_)
  · obtain ⟨x, y, rfl, _⟩ := h
    rfl
  · obtain ⟨x, y, rfl, hx1, hx2, hy, q⟩ := h
    have hn := mul_small hx2 hy
    refine ⟨_, pss_one (ps_ret (pe_lc (own := [("cell", 2)]) rfl scAllNb.nd (pi_range1 rfl G.range (pa_cons (pe_op op_mul (pv 0) (pv 1)) pa_nil)) (blkOk_by (by kernel_rfl))
      (fun _ _ _ _ _ => pg_name (i := 2) scAllNb.nd rfl (Or.inl rfl)) (fun _ _ _ _ _ => pts_nil) (fun _ _ _ _ _ => pe_cal CN hr rfl (pa_cons (pv 0) (pa_cons (pv 1) (pa_cons (pv 2) pa_nil)))))), ?_⟩
    refine ⟨_, rfl, _, rfl, _, _, rfl, rfl, .inl ⟨by omega, by omega⟩, _, rfl, (by show -(2 ^ 62) ≤ ((x * y : Nat) : Int); omega), (by show ((x * y : Nat) : Int) < 2 ^ 62; omega), fun D hD => ?_⟩
    have et : ((x : Int) * (y : Int)).toNat = x * y := by
      rw [show ((x : Int) * (y : Int)) = ((x * y : Nat) : Int) from rfl]
      exact Int.toNat_natCast _
    rw [et]
    refine lc_range (fun i H' => ∃ as : List Addr, as.length = i ∧ H' D = some (.lst (as.map V.ref)) ∧ Same H H' ∧ ∀ (c : Nat) (a : Addr), as[c]? = some a → H a = none ∧ a ≠ D ∧ H' a = some (.lst (nL (nbs x y c)))) ⟨[], rfl, upd_same, same_upd hD, fun c a h => by simp at h⟩ ?_ ?_
    · rintro i H1 hi ⟨as, hl, hd, s1, hat⟩
      refine ⟨rfl, tYes_if ?_⟩
      refine ⟨_, rfl, _, rfl, _, rfl, x, y, i, by rw [Int.zero_add]; rfl, hx1, hx2, hy, fun H2 p s2 hp e2 => ?_⟩
      have hDp : D ≠ p := ne_of_none hd hp
      refine ⟨_, s2 _ _ hd, (by rw [List.length_map, hl]; exact Nat.lt_of_lt_of_le (show i < 257 by omega) (by decide)), as ++ [p], by rw [List.length_append, hl]; rfl, by rw [upd_same, List.map_append]; rfl, fun b o e => ?_, fun c a h => ?_⟩
      · rw [upd_ne (ne_of_none e hD)]
        exact s2 _ _ (s1 _ _ e)
      · rcases snoc_get h with ⟨hc, h⟩ | ⟨hc, rfl⟩
        · obtain ⟨n1, n2, n3⟩ := hat c a h
          exact ⟨n1, n2, by rw [upd_ne n2]; exact s2 _ _ n3⟩
        · refine ⟨s1.free hp, hDp.symm, ?_⟩
          rw [upd_ne hDp.symm, hc, hl]
          exact e2
    · rintro H1 ⟨as, hl, hd, s1, hat⟩
      exact q H1 D as s1 hD hd ⟨hl, fun c a h => (hat c a h).2.2⟩ fun a ha => by
        obtain ⟨c, hc, e⟩ := List.mem_iff_getElem.mp ha
        exact (hat c a (by rw [← e]; exact List.getElem?_eq_getElem hc)).1
end
end Rv
end
section
set_option Elab.async false
set_option linter.all false
set_option maxRecDepth 100000
set_option maxHeartbeats 4000000
namespace Rv
open PySem PySem.Spec PyProof.Rows L2 RvM
section
variable {P : Program} {w : World} {K : PySem.W.Frag} {mg : Str → Option Value} {base : Heap}
/-- what each cell weighs -/
def wsOf (m : Sr37.Map_) : List Nat := (List.range m.n).map (weigh m)
theorem wsOf_len (m : Sr37.Map_) : (wsOf m).length = m.n := by simp [wsOf]
theorem wsOf_get (m : Sr37.Map_) {c : Nat} (h : c < m.n) : (wsOf m).getD c 0 = weigh m c := by
  rw [List.getD_eq_getElem?_getD, wsOf, List.getElem?_map, List.getElem?_range h]
  rfl
/-- weights, neighbours as a search wants them -/
structure Field (K : PySem.W.Frag) (H : Hp) (m : Sr37.Map_) (aW aB : Addr) (as : List Addr) : Prop where
  w1 : 1 ≤ m.w
  w2 : m.w ≤ 16
  h2 : m.h ≤ 16
  ws : H aW = some (.lst (nL (wsOf m)))
  bs : H aB = some (.lst (as.map V.ref))
  nb : NbAt H as m.w m.h
theorem Field.same {H H' : Hp} {m : Sr37.Map_} {aW aB : Addr} {as : List Addr} (T : Field K H m aW aB as) (s : Same H H') : Field K H' m aW aB as :=
  ⟨T.w1, T.w2, T.h2, s _ _ T.ws, s _ _ T.bs, T.nb.1, fun c a h => s _ _ (T.nb.2 c a h)⟩
theorem Field.n256 {H : Hp} {m : Sr37.Map_} {aW aB : Addr} {as : List Addr} (T : Field K H m aW aB as) : m.n ≤ 256 := mul_small T.w2 T.h2
theorem Field.get {H : Hp} {m : Sr37.Map_} {aW aB : Addr} {as : List Addr} (T : Field K H m aW aB as) {c : Nat} (h : c < m.n) : ∃ a, as[c]? = some a ∧ H a = some (.lst (nL (nbs m.w m.h c))) := by
  have hl : c < as.length := by rw [T.nb.1]; exact h
  exact ⟨_, List.getElem?_eq_getElem hl, T.nb.2 c _ (List.getElem?_eq_getElem hl)⟩
theorem refs_at {as : List Addr} {c : Nat} {a : Addr} (h : as[c]? = some a) : atI (as.map V.ref) ((c : Nat) : Int) = some (.ref a) := by
  refine atI_nat ?_
  rw [List.getElem?_map, h]
  rfl
theorem nL_int (l : List Nat) : nL l = (l.map fun (n : Nat) => (n : Int)).map V.int := by rw [List.map_map]; rfl
theorem bootMin : bootBuiltins "min" = some (.builtin "min") := by decide +kernel
theorem bootSorted : bootBuiltins "sorted" = some (.builtin "sorted") := by decide +kernel
theorem bootSet : bootBuiltins "set" = some (.type "set") := by decide +kernel
/-- as a block's parts want them: the text's part a letter -/
theorem ixK {X : Cx} {K : PySem.W.Frag} (h : X.K = K) : IxR X (rIxL K) := h ▸ ix_list
theorem pe_fldK {X : Cx} {K : PySem.W.Frag} {e : Expr} {ta : TE} {f : Str} {pos : Pos} (h : X.K = K) (he : PE X e ta) (hb : attributeBase e f X.env (eval e X.env) = eval e X.env) : PE X (.Attribute e f pos) (tFld K ta f) := h ▸ pe_fld he hb
def spSecond (K : PySem.W.Frag) : Sp := fun vs H Q _ => ∃ (m : Sr37.Map_) (aW aB aS : Addr) (as : List Addr) (ss : List Nat) (a d : Nat), vs = [.ref aW, .ref aB, .ref aS, vI a] ∧ Field K H m aW aB as ∧ H aS = some (.lst (nL ss)) ∧ ss.length = m.n ∧ a < m.n ∧
  Second m (fun c => ss.getD c 0) a d ∧ ∀ H', Same H H' → Q (vI d) H'
theorem scSecond : FnScope ["weights", "beside", "sums", "place", "onward", "cell"] ["weights", "beside", "sums", "place"] (defScope sSecond) := ⟨rfl, rfl, rfl, by decide +kernel, rfl, by decide +kernel, by decide +kernel⟩
theorem take_snoc {α : Type} : ∀ {l : List α} {i : Nat} {x : α}, l[i]? = some x → l.take (i + 1) = l.take i ++ [x]
  | [], i, x, h => by simp at h
  | a :: l, 0, x, h => by
    have e : a = x := Option.some.inj h
    subst e
    rfl
  | a :: l, i + 1, x, h => by
    have ih := take_snoc (l := l) (i := i) (x := x) h
    show a :: l.take (i + 1) = a :: l.take i ++ [x]
    rw [ih]
    rfl
theorem nL_get {l : List Nat} {i : Nat} {x : V} (h : (nL l)[i]? = some x) : ∃ c, l[i]? = some c ∧ x = vI c := by
  rw [List.getElem?_map] at h
  cases e : l[i]? with
  | none => rw [e] at h; cases h
  | some c => rw [e] at h; exact ⟨c, rfl, (Option.some.inj h).symm⟩
theorem ok_second {f : Addr} {fd : FuncData} (F : Fun K "second_cell" "second_cell" sSecond f fd) (G : Gs mg) : FnOk P w K mg base CX0 1 f fd ["weights", "beside", "sums", "place"] (spSecond K) := by
  refine F.ok scSecond (fun vs H Q E h => ?_) (fun cdv A outer s H vs Q E hr h => ?_)
  · obtain ⟨m, aW, aB, aS, as, ss, a, d, rfl, _⟩ := h
    rfl
  · obtain ⟨m, aW, aB, aS, as, ss, a, d, rfl, T, hS, hsl, ha, sc, q⟩ := h
    obtain ⟨an, han, hnb⟩ := T.get ha
    have hmem : ∀ c, c ∈ nbs m.w m.h a ↔ Adj m a c := fun c => mem_nbs T.w1 ha
    have hlt : ∀ c, c ∈ nbs m.w m.h a → c < m.n := fun c hc => (beside_iff.mp ((hmem c).mp hc)).2.1
    refine ⟨_, pss_cons (ps_setLc (i := 4) (own := [("cell", 5)]) rfl scSecond.nd rfl rfl (sw_true rfl rfl rfl (by kernel_rfl)) (pi_list (pe_ix ix_list (pv 1) (pv 3) (fun _ _ => rfl))) (blkOk_by (by kernel_rfl))
      (fun _ _ _ _ _ => pg_name (i := 5) scSecond.nd rfl (Or.inl rfl)) (fun _ _ _ _ _ => pts_one (pt_cmpR op_eq (pe_op op_add (pe_ix (ixK (K := K) rfl) (pv 2) (pv 5) (fun _ _ => rfl)) (pe_ix (ixK (K := K) rfl) (pv 0) (pv 3) (fun _ _ => rfl))) (pe_ix (ixK (K := K) rfl) (pv 2) (pv 3) (fun _ _ => rfl)) (nomark _))) (fun _ _ _ _ _ => pv 5))
      (pss_one (ps_ret (pe_callB (cr_min rfl) (by rfl) G.min bootMin (pa_cons (pv 4) pa_nil)))), ?_⟩
    refine ⟨_, rfl, _, rfl, aB, _, _, _, rfl, rfl, SqL.of T.bs, refs_at han, an, rfl, ⟨_, SqL.of hnb⟩, fun D hD => ?_⟩
    refine lc_list (K := K) (a := an) (xs := nL (nbs m.w m.h a)) (fun i H' => H' D = some (.lst (nL (((nbs m.w m.h a).take i).filter fun c => ss.getD c 0 + weigh m a == ss.getD a 0))) ∧ Same H H') ⟨upd_same, same_upd hD⟩ (fun i H' _ h => SqL.of (h.2 _ _ hnb)) ?_ ?_
    · rintro i x H1 hx ⟨hd, s1⟩
      obtain ⟨c, hc, rfl⟩ := nL_get hx
      have hcm := List.mem_of_getElem? hc
      have hcn := hlt c hcm
      have T1 := T.same s1
      refine ⟨rfl, _, rfl, _, rfl, aS, _, _, _, rfl, rfl, SqL.of (s1 _ _ hS), nums_at (by omega), _, rfl, _, rfl, aW, _, _, _, rfl, rfl, SqL.of T1.ws, nums_at (by rw [wsOf_len]; exact ha), _, _, rfl, rfl, _, rfl, _, rfl, aS, _, _, _, rfl, rfl, SqL.of (s1 _ _ hS), nums_at (by omega), rfl, _, rfl, ?_⟩
      rw [wsOf_get m ha]
      have len : (nL (((nbs m.w m.h a).take i).filter fun c => ss.getD c 0 + weigh m a == ss.getD a 0)).length < sizeLine := by
        rw [List.length_map]
        have h1 := List.length_filter_le (fun c => ss.getD c 0 + weigh m a == ss.getD a 0) ((nbs m.w m.h a).take i)
        have h2 := nbs_len m.w m.h a
        have h3 : ((nbs m.w m.h a).take i).length ≤ (nbs m.w m.h a).length := by rw [List.length_take]; omega
        rw [sizeLine_eq]
        omega
      have ef : ((nbs m.w m.h a).take (i + 1)).filter (fun c => ss.getD c 0 + weigh m a == ss.getD a 0) = (((nbs m.w m.h a).take i).filter fun c => ss.getD c 0 + weigh m a == ss.getD a 0) ++ (if (ss.getD c 0 + weigh m a == ss.getD a 0) = true then [c] else []) := by
        rw [take_snoc hc, List.filter_append]
        congr 1
        rw [List.filter_cons, List.filter_nil]
      refine ite2 (fun hcc => ?_) (fun hcc => ?_)
      · have he := d_eq hcc
        refine ⟨_, rfl, _, hd, len, ?_, fun b o e => by rw [upd_ne (ne_of_none e hD)]; exact s1 _ _ e⟩
        rw [ef, if_pos (by rw [beq_iff_eq]; omega), upd_same]
        simp only [nL, List.map_append]
        rfl
      · have he := d_ne hcc
        refine ⟨?_, s1⟩
        rw [ef, if_neg (by rw [beq_iff_eq]; omega), List.append_nil]
        exact hd
    · rintro H1 ⟨hd, s1⟩
      rw [List.length_map, List.take_length, nL_int] at hd
      have hdm : d ∈ (nbs m.w m.h a).filter fun c => ss.getD c 0 + weigh m a == ss.getD a 0 := by
        rw [List.mem_filter]
        exact ⟨(hmem d).mpr sc.ad, by rw [beq_iff_eq]; exact sc.eq⟩
      refine ⟨_, rfl, D, _, rfl, SqL.of hd, by rw [List.length_map]; exact List.length_pos_of_mem hdm, fun z hz hmin => ?_⟩
      obtain ⟨e, he, rfl⟩ := List.mem_map.mp hz
      have h1 := hmin (d : Int) (List.mem_map.mpr ⟨d, hdm, rfl⟩)
      rw [List.mem_filter, hmem, beq_iff_eq] at he
      have h2 := sc.lt e he.1 he.2
      have : e = d := by omega
      subst this
      exact q H1 s1
end
end Rv
end
section
set_option Elab.async false
set_option linter.all false
set_option maxRecDepth 100000
set_option maxHeartbeats 4000000
namespace Rv
open PySem PySem.Spec PyProof.Rows L2 RvM
/-! ### numbers by places -/
theorem getD_set {l : List Nat} {d v c : Nat} (h : d < l.length) : (l.set d v).getD c 0 = if c = d then v else l.getD c 0 := by
  simp only [List.getD_eq_getElem?_getD, List.getElem?_set]
  by_cases e : d = c
  · subst e; simp [h]
  · rw [if_neg e, if_neg (fun q => e q.symm)]
def zeros (l : List Nat) : Nat := l.countP (· == 0)
theorem zeros_set : ∀ {l : List Nat} {d v : Nat}, l[d]? = some 0 → v ≠ 0 → zeros (l.set d v) + 1 = zeros l
  | [], d, v, h, _ => by simp at h
  | a :: l, 0, v, h, hv => by
    have e : a = 0 := Option.some.inj h
    subst e
    show zeros (v :: l) + 1 = zeros (0 :: l)
    unfold zeros
    rw [List.countP_cons_of_neg (by simpa using hv), List.countP_cons_of_pos (by simp)]
  | a :: l, d + 1, v, h, hv => by
    have ih := zeros_set (l := l) (d := d) (v := v) (by simpa using h) hv
    show zeros (a :: l.set d v) + 1 = zeros (a :: l)
    unfold zeros at ih ⊢
    rw [List.countP_cons, List.countP_cons]
    omega
theorem ixN_nat {n j : Nat} (h : j < n) : ixN n (j : Int) = some j := by
  unfold ixN
  rw [if_pos (by omega), if_pos (by omega)]
  simp
theorem nL_set (l : List Nat) (j v : Nat) : (nL l).set j (vI v) = nL (l.set j v) := by rw [nL, nL, List.map_set]
theorem rep_nL (n : Nat) : (List.replicate n ([V.int 0] : List V)).flatten = nL (List.replicate n 0) := by
  induction n with
  | zero => rfl
  | succ n ih => rw [List.replicate_succ, List.replicate_succ, List.flatten_cons, ih]; rfl

theorem Mid_mono {n : Nat} {adj : Nat → Nat → Prop} {ws : Nat → Nat} {b q x : Nat} {tk tk' : Nat → Prop} {ss : Nat → Nat} {ed : List (Nat × Nat)} (h : Mid n adj ws b q x tk ss ed) (k : ∀ e, tk' e → tk e) : Mid n adj ws b q x tk' ss ed :=
  ⟨h.nd, h.ent, h.q0, h.wz, h.st, h.src, h.fin, h.low, fun d hd => h.cur d (k d hd)⟩

/-! ### the edge in the heap -/
structure EdgeAt (H0 H : Hp) (aS aE : Addr) (kvs : List (Nat × Addr)) (ls : Addr → List Nat) : Prop where
  d : H aE = some (.dK (kvL kvs))
  l : ∀ kv ∈ kvs, H kv.2 = some (.lst (nL (ls kv.2)))
  nk : (kvs.map (·.1)).Nodup
  na : (kvs.map (·.2)).Nodup
  new : ∀ kv ∈ kvs, H0 kv.2 = none ∧ kv.2 ≠ aS
section
variable {H0 H : Hp} {aS aE : Addr} {kvs : List (Nat × Addr)} {ls : Addr → List Nat}
theorem EdgeAt.ne (E : EdgeAt H0 H aS aE kvs ls) {kv : Nat × Addr} (h : kv ∈ kvs) : kv.2 ≠ aE := ne_of (E.l kv h) E.d (by intro z; cases z)
theorem EdgeAt.upd {a : Addr} {o : HO} (E : EdgeAt H0 H aS aE kvs ls) (h1 : aE ≠ a) (h2 : ∀ kv ∈ kvs, kv.2 ≠ a) : EdgeAt H0 (upd H a o) aS aE kvs ls :=
  ⟨by rw [upd_ne h1]; exact E.d, fun kv h => by rw [upd_ne (h2 kv h)]; exact E.l kv h, E.nk, E.na, E.new⟩
theorem EdgeAt.fresh {a : Addr} {o : HO} (E : EdgeAt H0 H aS aE kvs ls) (h : H a = none) : EdgeAt H0 (L2.upd H a o) aS aE kvs ls := E.upd (ne_of_none E.d h) fun kv hk => ne_of_none (E.l kv hk) h
theorem EdgeAt.add {y : Nat} {t : Addr} (E : EdgeAt H0 H aS aE kvs ls) (ht : H t = some (.lst [])) (h0 : H0 t = none) (hs : t ≠ aS) (hn : ∀ kv ∈ kvs, kv.2 ≠ t) (hy : y ∉ kvs.map (·.1)) :
    EdgeAt H0 (L2.upd H aE (.dK (kvL (kvs ++ [(y, t)])))) aS aE (kvs ++ [(y, t)]) (fun b => if b = t then [] else ls b) := by
  have htE : t ≠ aE := ne_of ht E.d (by intro z; cases z)
  refine ⟨upd_same, fun kv h => ?_, ?_, ?_, fun kv h => ?_⟩
  · rcases List.mem_append.mp h with h | h
    · rw [upd_ne (E.ne h), if_neg (hn kv h)]; exact E.l kv h
    · rw [List.mem_singleton] at h
      subst h
      rw [upd_ne htE, if_pos rfl]; exact ht
  · rw [List.map_append, List.nodup_append]
    refine ⟨E.nk, by simp, fun a ha b hb e => ?_⟩
    simp only [List.map_cons, List.map_nil, List.mem_singleton] at hb
    exact hy (by rw [← hb, ← e]; exact ha)
  · rw [List.map_append, List.nodup_append]
    refine ⟨E.na, by simp, fun a ha b hb e => ?_⟩
    simp only [List.map_cons, List.map_nil, List.mem_singleton] at hb
    obtain ⟨kv, h1, h2⟩ := List.mem_map.mp ha
    exact hn kv h1 (by rw [h2, e, hb])
  · rcases List.mem_append.mp h with h | h
    · exact E.new kv h
    · rw [List.mem_singleton] at h
      subst h
      exact ⟨h0, hs⟩
theorem EdgeAt.app {y c : Nat} {a : Addr} (E : EdgeAt H0 H aS aE kvs ls) (hm : (y, a) ∈ kvs) : EdgeAt H0 (L2.upd H a (.lst (nL (ls a ++ [c])))) aS aE kvs (put1 ls a c) := by
  refine ⟨by rw [upd_ne (E.ne hm).symm]; exact E.d, fun kv h => ?_, E.nk, E.na, E.new⟩
  by_cases e : kv.2 = a
  · rw [e, upd_same, put1_same]
  · rw [upd_ne e, put1_ne e]; exact E.l kv h
theorem EdgeAt.pop {x : Nat} (E : EdgeAt H0 H aS aE kvs ls) : EdgeAt H0 (L2.upd H aE (.dK (kvL (kvs.filter fun kv => decide (kv.1 ≠ x))))) aS aE (kvs.filter fun kv => decide (kv.1 ≠ x)) ls :=
  ⟨upd_same, fun kv h => by rw [upd_ne (E.ne (List.mem_filter.mp h).1)]; exact E.l kv (List.mem_filter.mp h).1, E.nk.sublist (List.filter_sublist.map _), E.na.sublist (List.filter_sublist.map _), fun kv h => E.new kv (List.mem_filter.mp h).1⟩
end
theorem pop_len {x : Nat} {a : Addr} : ∀ {kvs : List (Nat × Addr)}, (x, a) ∈ kvs → (kvs.filter fun kv => decide (kv.1 ≠ x)).length + 1 ≤ kvs.length
  | [], h => by simp at h
  | kv :: r, h => by
    rw [List.filter_cons]
    rcases List.mem_cons.mp h with e | h
    · subst e
      rw [if_neg (by simp), List.length_cons]
      exact Nat.succ_le_succ (List.length_filter_le _ _)
    · have := pop_len h
      split
      · rw [List.length_cons, List.length_cons]; omega
      · rw [List.length_cons]; omega
structure LInv (m : Sr37.Map_) (H H' : Hp) (aS aE an : Addr) (nr ss : List Nat) (kvs : List (Nat × Addr)) (ls : Addr → List Nat) : Prop where
  sm : Same H H'
  s : H' aS = some (.lst (nL ss))
  sl : ss.length = m.n
  e : EdgeAt H H' aS aE kvs ls
  n : H' an = some (.lst (nL nr))
  nn : ∀ kv ∈ kvs, kv.2 ≠ an
/-- within one cell's neighbours -/
def InI (m : Sr37.Map_) (H : Hp) (aW aB aS aE an : Addr) (b x qc i M : Nat) (nr : List Nat) (j : Nat) (σ : L2.St) (H' : Hp) : Prop :=
  ∃ (ss : List Nat) (kvs : List (Nat × Addr)) (ls : Addr → List Nat) (v8 : Option V), σ = [some (.ref aW), some (.ref aB), some (vI b), some (.ref aS), some (.ref aE), some (vI x), some (.ref an), some (vI qc), v8] ∧ LInv m H H' aS aE an nr ss kvs ls ∧
    Mid m.n (Adj m) (weigh m) b qc x (fun e => e ∈ (nbs m.w m.h qc).take j) (fun c => ss.getD c 0) (at1 x (nr.drop (i + 1)) ++ flat ls kvs) ∧ kvs.length + zeros ss + 1 ≤ M
/-- within one sum's cells -/
def OuI (m : Sr37.Map_) (H : Hp) (aW aB aS aE an : Addr) (b x M : Nat) (nr : List Nat) (i : Nat) (σ : L2.St) (H' : Hp) : Prop :=
  ∃ (ss : List Nat) (kvs : List (Nat × Addr)) (ls : Addr → List Nat) (v7 v8 : Option V), σ = [some (.ref aW), some (.ref aB), some (vI b), some (.ref aS), some (.ref aE), some (vI x), some (.ref an), v7, v8] ∧ LInv m H H' aS aE an nr ss kvs ls ∧
    Out m.n (Adj m) (weigh m) b (fun c => ss.getD c 0) (at1 x (nr.drop i) ++ flat ls kvs) ∧ (∀ y c, (y, c) ∈ flat ls kvs → x ≤ y) ∧ kvs.length + zeros ss + 1 ≤ M
/-- between two sums -/
def WhI (m : Sr37.Map_) (H : Hp) (aW aB aS aE : Addr) (b k : Nat) (σ : L2.St) (H' : Hp) : Prop :=
  ∃ (ss : List Nat) (kvs : List (Nat × Addr)) (ls : Addr → List Nat) (v5 v6 v7 v8 : Option V), σ = [some (.ref aW), some (.ref aB), some (vI b), some (.ref aS), some (.ref aE), v5, v6, v7, v8] ∧ Same H H' ∧ H' aS = some (.lst (nL ss)) ∧ ss.length = m.n ∧ EdgeAt H H' aS aE kvs ls ∧
    Out m.n (Adj m) (weigh m) b (fun c => ss.getD c 0) (flat ls kvs) ∧ k = kvs.length + zeros ss ∧ k ≤ m.n

section
variable {P : Program} {w : World} {K : PySem.W.Frag} {mg : Str → Option Value} {base : Heap}
def spLightest (K : PySem.W.Frag) : Sp := fun vs H Q _ => ∃ (m : Sr37.Map_) (aW aB : Addr) (as : List Addr) (b : Nat), vs = [.ref aW, .ref aB, vI b] ∧ Field K H m aW aB as ∧ b < m.n ∧
  ∀ (H' : Hp) (p : Addr) (ss : List Nat), Same H H' → H p = none → H' p = some (.lst (nL ss)) → ss.length = m.n → Sums m b (fun c => ss.getD c 0) → Q (.ref p) H'
theorem scLightest : FnScope ["weights", "beside", "start", "sums", "edge", "least", "nearest", "near", "cell"] ["weights", "beside", "start"] (defScope sLightest) := ⟨rfl, rfl, rfl, by decide +kernel, rfl, by decide +kernel, by decide +kernel⟩
theorem ok_lightest {f : Addr} {fd : FuncData} (F : Fun K "lightest" "lightest" sLightest f fd) (G : Gs mg) : FnOk P w K mg base CX0 1 f fd ["weights", "beside", "start"] (spLightest K) := by
  refine F.ok scLightest (fun vs H Q E h => ?_) (fun cdv A outer s H vs Q E hr h => ?_)
  · obtain ⟨m, aW, aB, as, b, rfl, _⟩ := h
    rfl
  · obtain ⟨m, aW, aB, as, b, rfl, T, hb, q⟩ := h
    have n256 := T.n256
    refine ⟨_, pss_cons (ps_set (i := 3) scLightest.nd rfl (Or.inl rfl) (pe_op op_rep (pe_lst (pa_cons pe_int pa_nil)) (pe_callB call_len_seq (by rfl) G.len PySem.boot_len (pa_cons (pv 0) pa_nil))))
      (pss_cons (ps_if (pt_cmpR op_eq (pe_ix ix_list (pv 0) (pv 2) (fun _ _ => rfl)) pe_int (nomark _)) (pss_one (ps_ret (pv 3))) pss_nil)
      (pss_cons (ps_asg (pe_ix ix_list (pv 0) (pv 2) (fun _ _ => rfl)) (pg_sub (pv 3) (pv 2) set_list))
      (pss_cons (ps_set (i := 4) scLightest.nd rfl (Or.inl rfl) (pe_disp (pps_cons (pe_ix ix_list (pv 3) (pv 2) (fun _ _ => rfl)) (pe_lst (pa_cons (pv 2) pa_nil)) pps_nil) rfl rfl (List.cons_ne_nil _ _) (Nat.le_of_ble_eq_true rfl)))
      (pss_cons (ps_while PassesOwn.never (pt_truth (pv 4) (fun _ => rfl))
        (pss_cons (ps_set (i := 5) scLightest.nd rfl (Or.inl rfl) (pe_callB (cr_minD rfl) (by rfl) G.min bootMin (pa_cons (pv 4) pa_nil)))
        (pss_cons (ps_set (i := 6) scLightest.nd rfl (Or.inl rfl) (pe_bm PySem.F.plainAttrs_dict PySem.F.slot_dict_pop PySem.F.type_dict_pop mt_popD (pv 4) (pa_cons (pv 5) pa_nil)))
        (pss_one (ps_for PassesOwn.never rfl (pi_list (pv 6)) (pg_name (i := 7) scLightest.nd rfl (Or.inl rfl))
          (pss_one (ps_for PassesOwn.never rfl (pi_list (pe_ix ix_list (pv 1) (pv 7) (fun _ _ => rfl))) (pg_name (i := 8) scLightest.nd rfl (Or.inl rfl))
            (pss_one (ps_if (PW.pt (pw_and (pt_cmpR op_gt (pe_ix ix_list (pv 0) (pv 8) (fun _ _ => rfl)) pe_int (nomark _)) (pw_and1 (pt_cmpR op_eq (pe_ix ix_list (pv 3) (pv 8) (fun _ _ => rfl)) pe_int (nomark _)))))
              (pss_cons (ps_asg (pe_op op_add (pv 5) (pe_ix ix_list (pv 0) (pv 8) (fun _ _ => rfl))) (pg_sub (pv 3) (pv 8) set_list))
              (pss_one (ps_expr (pe_bm PySem.F.plainAttrs_list PySem.F.slot_list_append PySem.F.type_list_append mt_append
                (pe_bm PySem.F.plainAttrs_dict PySem.F.slot_dict_setdefault PySem.F.type_dict_setdefault mt_setD (pv 4) (pa_cons (pe_ix ix_list (pv 3) (pv 8) (fun _ _ => rfl)) (pa_cons (pe_lst pa_nil) pa_nil))) (pa_cons (pv 8) pa_nil))))) pss_nil)))))))))
      (pss_one (ps_ret (pv 3))))))), ?_⟩
    -- sums = [0] * len(weights)
    refine ⟨(by show 1 ≤ sizeLine; decide), fun l1 hl1 => ?_⟩
    have s1 := same_upd (H := H) (p := l1) (o := .lst [V.int 0]) hl1
    refine ⟨_, rfl, aW, _, rfl, .inl (SqL.of (s1 _ _ T.ws)), l1, _, _, rfl, rfl, upd_same, ?_⟩
    rw [List.length_map, wsOf_len]
    refine ⟨by omega, by omega, ?_, fun aS haS => ?_⟩
    · rw [Int.toNat_natCast]
      exact line_small (by show 1 * m.n ≤ 100000; omega)
    rw [Int.toNat_natCast, rep_nL]
    have s2 : Same H (upd (upd H l1 (.lst [V.int 0])) aS (.lst (nL (List.replicate m.n 0)))) := s1.trans (same_upd haS)
    have faS : H aS = none := s1.free haS
    -- if weights[start] == 0
    refine ⟨_, rfl, _, rfl, aW, _, _, _, rfl, rfl, SqL.of (s2 _ _ T.ws), nums_at (by rw [wsOf_len]; exact hb), rfl, _, rfl, ite2 (fun hc => ?_) (fun hc => ?_)⟩
    · have hz := d_eq hc
      rw [wsOf_get m hb] at hz
      refine ⟨_, rfl, q _ aS _ s2 faS upd_same (by simp) ⟨fun _ c => getD_rep _ c, fun h => absurd (by omega) h⟩⟩
    · have hz := d_ne hc
      rw [wsOf_get m hb] at hz
      have hwb : weigh m b ≠ 0 := by omega
      -- sums[start] = weights[start]
      refine ⟨_, rfl, _, rfl, aW, _, _, _, rfl, rfl, SqL.of (s2 _ _ T.ws), nums_at (by rw [wsOf_len]; exact hb), _, rfl, _, rfl, aS, _, _, b, rfl, rfl, upd_same, ixN_nat (by rw [List.length_map, List.length_replicate]; exact hb), ?_⟩
      rw [wsOf_get m hb, nL_set]
      have keepS : ∀ {H1 : Hp} {o : HO}, Same H H1 → Same H (upd H1 aS o) := fun s b' o' e => by rw [upd_ne (ne_of_none e faS)]; exact s _ _ e
      have s3 := keepS (o := .lst (nL ((List.replicate m.n 0).set b (weigh m b)))) s2
      have len1 : ((List.replicate m.n 0).set b (weigh m b)).length = m.n := by rw [List.length_set, List.length_replicate]
      have get1 : ∀ c, ((List.replicate m.n 0).set b (weigh m b)).getD c 0 = if c = b then weigh m b else 0 := fun c => by
        rw [getD_set (by rw [List.length_replicate]; exact hb), getD_rep]
      have zer1 : 1 + zeros ((List.replicate m.n 0).set b (weigh m b)) ≤ m.n := by
        have h1 := zeros_set (l := List.replicate m.n 0) (d := b) (v := weigh m b) (by rw [List.getElem?_replicate, if_pos hb]) hwb
        have h2 : zeros (List.replicate m.n 0) ≤ m.n := by
          have := List.countP_le_length (p := fun x : Nat => x == 0) (l := List.replicate m.n 0)
          rw [List.length_replicate] at this
          exact this
        omega
      -- edge = {sums[start]: [start]}
      intro aE haE
      have faE : H aE = none := s3.free haE
      have hSE : aS ≠ aE := ne_of_none upd_same haE
      have s4 := s3.trans (same_upd (o := .dK []) haE)
      refine ⟨_, rfl, _, rfl, aS, _, _, _, rfl, rfl, SqL.of (same_upd haE _ _ upd_same), nums_at (by rw [len1]; exact hb), _, rfl, (by show 1 ≤ sizeLine; decide), fun t ht => ?_⟩
      have hEt : aE ≠ t := ne_of_none upd_same ht
      have hSt : aS ≠ t := ne_of_none (same_upd haE _ _ upd_same) ht
      refine ⟨by rw [upd_ne hEt]; exact upd_same, [(Sum.inl (weigh m b : Int), .ref t)], ?_, (by show 1 ≤ 15; decide), ?_⟩
      · rw [get1 b, if_pos rfl]
        rfl
      have s5 := s4.trans (same_upd (o := .lst [vI b]) ht)
      have keepE : ∀ {H1 : Hp} {o : HO}, Same H H1 → Same H (upd H1 aE o) := fun s b' o' e => by rw [upd_ne (ne_of_none e faE)]; exact s _ _ e
      have hO : Out m.n (Adj m) (weigh m) b (fun c => ((List.replicate m.n 0).set b (weigh m b)).getD c 0) [(weigh m b, b)] := by
        have e : (fun c => ((List.replicate m.n 0).set b (weigh m b)).getD c 0) = fun c => if c = b then weigh m b else 0 := funext get1
        rw [e]
        exact Out.start hb hwb adj_irr
      refine ⟨WhI m H aW aB aS aE b, ⟨_, _, [(weigh m b, t)], fun _ => [b], none, none, none, none, rfl, keepE s5, by rw [upd_ne hSE, upd_ne hSt, upd_ne hSE]; exact upd_same, len1, ⟨upd_same, fun kv h => ?_, by simp, by simp, fun kv h => ?_⟩, hO, rfl, zer1⟩, ?_⟩
      · rw [List.mem_singleton] at h
        subst h
        rw [upd_ne hEt.symm]
        exact upd_same
      · rw [List.mem_singleton] at h
        subst h
        exact ⟨s4.free ht, hSt.symm⟩
      rintro k σ H1 ⟨ss, kvs, ls, v5, v6, v7, v8, rfl, sH, hS, hsl, hE, hO, rfl, hkn⟩
      refine ⟨_, rfl, _, .inr (.inr ⟨_, hE.d, rfl⟩), ite2 (fun hc => ?_) (fun hc => ?_)⟩
      · -- a turn
        have hne : 0 < kvs.length := by
          cases kvs with
          | nil => cases hc
          | cons x r => simp
        refine ⟨fun σ' H' => ∃ m', m' < kvs.length + zeros ss ∧ _, fun σ' H' z => z, ?_⟩
        refine ⟨_, rfl, aE, kvs, rfl, hE.d, hne, fun x an hx hmin => ?_⟩
        refine ⟨_, rfl, .inr (.inr (.inl ⟨rfl, .inl ⟨_, hE.d⟩⟩)), _, rfl, aE, kvs, x, an, rfl, rfl, hE.d, hE.nk, hx, ?_⟩
        have hanE : an ≠ aE := hE.ne hx
        have hanS : an ≠ aS := (hE.new _ hx).2
        have fan : H an = none := (hE.new _ hx).1
        have hN : upd H1 aE (.dK (kvL (kvs.filter fun kv => decide (kv.1 ≠ x)))) an = some (.lst (nL (ls an))) := by rw [upd_ne hanE]; exact hE.l _ hx
        have sE := keepE (o := .dK (kvL (kvs.filter fun kv => decide (kv.1 ≠ x)))) sH
        have hpl := pop_len hx
        refine ⟨_, rfl, an, rfl, ⟨_, SqL.of hN⟩, ?_⟩
        refine for_list (K := K) (a := an) (xs := nL (ls an)) (OuI m H aW aB aS aE an b x (kvs.length + zeros ss) (ls an))
          ⟨ss, _, ls, v7, v8, rfl, ⟨sE, by rw [upd_ne hSE]; exact hS, hsl, hE.pop, hN, fun kv hk e => ?_⟩, ?_, fun y c hyc => ?_, by omega⟩ (fun i σ H' _ ⟨_, _, _, _, _, _, L, _⟩ => SqL.of L.n) ?_ ?_
        · obtain ⟨h1, h2⟩ := List.mem_filter.mp hk
          have h3 := of_decide_eq_true h2
          have nda := hE.na
          have := nodup_map_inj nda h1 hx e
          rw [this] at h3
          exact h3 rfl
        · rw [List.drop_zero]
          exact hO.perm (flat_pop hE.nk hx)
        · obtain ⟨a', h1, _⟩ := flat_mem.mp hyc
          exact hmin y a' (List.mem_filter.mp h1).1
        · rintro i z σ H2 hz ⟨ss2, kvs2, ls2, v7', v8', rfl, L2', hO2, hm2, hM2⟩
          obtain ⟨qc, hqc, rfl⟩ := nL_get hz
          have hdr : (ls an).drop i = qc :: (ls an).drop (i + 1) := by
            obtain ⟨hi, e⟩ := List.getElem?_eq_some_iff.mp hqc
            rw [← e]
            exact List.drop_eq_getElem_cons hi
          have hmid : Mid m.n (Adj m) (weigh m) b qc x (fun _ => False) (fun c => ss2.getD c 0) (at1 x ((ls an).drop (i + 1)) ++ flat ls2 kvs2) := by
            refine Out.pop (l := []) (by rw [hdr] at hO2; exact hO2) fun y c hyc => ?_
            rcases List.mem_cons.mp hyc with e | hyc
            · cases e; exact Nat.le_refl _
            · rcases List.mem_append.mp hyc with h | h
              · obtain ⟨d, _, e⟩ := List.mem_map.mp h
                cases e
                exact Nat.le_refl _
              · exact hm2 y c h
          have hqn : qc < m.n := hmid.q0.2.2.1
          have T2 := T.same L2'.sm
          obtain ⟨an2, han2, hnb2⟩ := T2.get hqn
          refine ⟨_, rfl, _, rfl, aB, _, _, _, rfl, rfl, SqL.of T2.bs, refs_at han2, an2, rfl, ⟨_, SqL.of hnb2⟩, ?_⟩
          refine for_list (K := K) (a := an2) (xs := nL (nbs m.w m.h qc)) (InI m H aW aB aS aE an b x qc i (kvs.length + zeros ss) (ls an))
            ⟨ss2, kvs2, ls2, v8', rfl, L2', Mid_mono hmid (fun e he => by simp at he), hM2⟩
            (fun j σ H' _ ⟨_, _, _, _, _, L, _⟩ => SqL.of (by obtain ⟨a3, e3, h3⟩ := (T.same L.sm).get hqn; rw [han2] at e3; cases e3; exact h3)) ?_ ?_
          · rintro j z σ H3 hz ⟨ss', kvs', ls', v8'', rfl, L, hM, hmeas⟩
            obtain ⟨c, hc', rfl⟩ := nL_get hz
            have T3 := T.same L.sm
            have hadj : Adj m qc c := (mem_nbs T.w1 hqn).mp (List.mem_of_getElem? hc')
            have hcn : c < m.n := (beside_iff.mp hadj).2.1
            have hW3 := SqL.of (K := K) T3.ws
            have hsl2 := L.sl
            have tkE : ∀ e, e ∈ (nbs m.w m.h qc).take (j + 1) → (e ∈ (nbs m.w m.h qc).take j ∨ e = c) := fun e he => by
              rw [take_snoc hc', List.mem_append, List.mem_singleton] at he
              exact he
            refine ⟨_, rfl, _, rfl, aW, _, _, _, rfl, rfl, hW3, nums_at (by rw [wsOf_len]; exact hcn), _, _, rfl, rfl, _, rfl, ite2 (fun hg => ?_) (fun hg => ?_)⟩
            · have hw : weigh m c ≠ 0 := by
                have := of_decide_eq_true hg
                rw [wsOf_get m hcn] at this
                omega
              refine ⟨_, rfl, _, rfl, aS, _, _, _, rfl, rfl, SqL.of L.s, nums_at (by omega), rfl, _, rfl, ite2 (fun hg2 => ?_) (fun hg2 => ?_)⟩
              · have hz0 : ss'.getD c 0 = 0 := by have := d_eq hg2; omega
                refine ⟨_, rfl, _, rfl, _, rfl, aW, _, _, _, rfl, rfl, hW3, nums_at (by rw [wsOf_len]; exact hcn), _, _, rfl, rfl, _, rfl, _, rfl, aS, _, _, c, rfl, rfl, L.s, ixN_nat (by rw [List.length_map]; omega), ?_⟩
                have ev : V.int ((x : Int) + (((wsOf m).getD c 0 : Nat) : Int)) = vI (x + weigh m c) := by rw [wsOf_get m hcn]; rfl
                have eset : (nL ss').set c (V.int ((x : Int) + (((wsOf m).getD c 0 : Nat) : Int))) = nL (ss'.set c (x + weigh m c)) := by rw [ev, nL_set]
                dsimp only
                rw [eset]
                have sH3 := keepS (o := .lst (nL (ss'.set c (x + weigh m c)))) L.sm
                have get3 : ∀ d, (ss'.set c (x + weigh m c)).getD d 0 = if d = c then x + weigh m c else ss'.getD d 0 := fun d => getD_set (by omega)
                have hz1 : ss'[c]? = some 0 := by
                  rw [List.getD_eq_getElem?_getD, List.getElem?_eq_getElem (by omega)] at hz0
                  rw [List.getElem?_eq_getElem (by omega)]
                  exact congrArg some hz0
                have hzer := zeros_set (v := x + weigh m c) hz1 (by omega)
                have hM2' := hM.push hcn (adj_symm m _ _ hadj) hw hz0
                have hflen : (flat ls' kvs').length ≤ m.n := by
                  have h1 := nodup_len m.n (cells (at1 x ((ls an).drop (i + 1)) ++ flat ls' kvs')) hM.nd fun z hz => by
                    obtain ⟨p', hp', e'⟩ := List.mem_map.mp hz
                    obtain ⟨y', c'⟩ := p'
                    cases e'
                    exact (hM.ent y' c' hp').2.2.1
                  rw [cells, List.length_map, List.length_append] at h1
                  omega
                -- behind setdefault: the list at a1 gets the cell
                have fin : ∀ (H4 : Hp) (kvs1 : List (Nat × Addr)) (ls1 : Addr → List Nat) (a1 : Addr), LInv m H H4 aS aE an (ls an) (ss'.set c (x + weigh m c)) kvs1 ls1 → (x + weigh m c, a1) ∈ kvs1 → flat ls1 kvs1 = flat ls' kvs' → kvs1.length ≤ kvs'.length + 1 →
                    tyV K "list" (.ref a1) H4 ∧ tCons (tVar 8) tNil [some (.ref aW), some (.ref aB), some (vI b), some (.ref aS), some (.ref aE), some (vI x), some (.ref an), some (vI qc), some (vI c)] H4 fun xs H5 => rAppend (.ref a1) xs H5 fun _ H6 =>
                      InI m H aW aB aS aE an b x qc i (kvs.length + zeros ss) (ls an) (j + 1) [some (.ref aW), some (.ref aB), some (vI b), some (.ref aS), some (.ref aE), some (vI x), some (.ref an), some (vI qc), some (vI c)] H6 := by
                  intro H4 kvs1 ls1 a1 L1 hm1 hf hle
                  have hl1 := L1.e.l _ hm1
                  have h1S : a1 ≠ aS := (L1.e.new _ hm1).2
                  have h1n : a1 ≠ an := L1.nn _ hm1
                  have f1 : H a1 = none := (L1.e.new _ hm1).1
                  have hlen1 := flat_len (ls := ls1) hm1
                  rw [hf] at hlen1
                  refine ⟨.inl ⟨rfl, _, SqL.of hl1⟩, _, rfl, a1, _, _, rfl, rfl, hl1, Nat.lt_of_le_of_lt (show (nL (ls1 a1)).length ≤ 256 by rw [List.length_map]; omega) (by decide), ?_⟩
                  have eapp : nL (ls1 a1) ++ [vI c] = nL (ls1 a1 ++ [c]) := by rw [nL, nL, List.map_append]; rfl
                  rw [eapp]
                  refine ⟨_, kvs1, put1 ls1 a1 c, _, rfl, ⟨fun b' o' e => by rw [upd_ne (ne_of_none e f1)]; exact L1.sm _ _ e, by rw [upd_ne h1S.symm]; exact L1.s, L1.sl, L1.e.app hm1, by rw [upd_ne h1n.symm]; exact L1.n, L1.nn⟩, ?_, by omega⟩
                  have e : (fun d => (ss'.set c (x + weigh m c)).getD d 0) = fun d => if d = c then x + weigh m c else ss'.getD d 0 := funext get3
                  rw [e]
                  refine Mid_mono (hM2'.perm ?_) tkE
                  rw [List.append_assoc]
                  refine List.Perm.append_left _ ?_
                  rw [← hf]
                  exact flat_put L1.e.na hm1
                have E3 : EdgeAt H (upd H3 aS (.lst (nL (ss'.set c (x + weigh m c))))) aS aE kvs' ls' := L.e.upd hSE.symm fun kv hk => (L.e.new kv hk).2
                refine ⟨_, rfl, .inr (.inr (.inl ⟨rfl, .inl ⟨_, E3.d⟩⟩)), _, rfl, _, rfl, aS, _, _, _, rfl, rfl, SqL.of upd_same, nums_at (by rw [List.length_set]; omega), Nat.zero_le _, fun t2 ht2 => ?_⟩
                rw [get3 c, if_pos rfl]
                have E4 := E3.fresh (o := .lst []) ht2
                have f2 : H t2 = none := sH3.free ht2
                have h2S : t2 ≠ aS := (ne_of_none upd_same ht2).symm
                have h2E : t2 ≠ aE := (ne_of_none E3.d ht2).symm
                have hn3 : upd H3 aS (.lst (nL (ss'.set c (x + weigh m c)))) an = some (.lst (nL (ls an))) := by rw [upd_ne hanS]; exact L.n
                have h2n : t2 ≠ an := (ne_of_none hn3 ht2).symm
                have hS4 : upd (upd H3 aS (.lst (nL (ss'.set c (x + weigh m c))))) t2 (.lst []) aS = some (.lst (nL (ss'.set c (x + weigh m c)))) := by rw [upd_ne h2S.symm]; exact upd_same
                have sH4 := sH3.trans (same_upd (o := .lst []) ht2)
                have hlen4 : (ss'.set c (x + weigh m c)).length = m.n := by rw [List.length_set]; exact hsl2
                refine ⟨aE, kvs', x + weigh m c, t2, rfl, rfl, E4.d, Nat.lt_of_le_of_lt (show kvs'.length ≤ 256 by omega) (by decide), fun a1 ha1 => ?_, fun hk => ?_⟩
                · exact fin _ kvs' ls' a1 ⟨sH4, hS4, hlen4, E4, by rw [upd_ne h2n.symm]; exact hn3, L.nn⟩ ha1 rfl (Nat.le_succ _)
                · have hne2 : ∀ kv ∈ kvs', kv.2 ≠ t2 := fun kv hk => ne_of_none (E3.l kv hk) ht2
                  refine fin _ (kvs' ++ [(x + weigh m c, t2)]) (fun b => if b = t2 then [] else ls' b) t2 ⟨keepE sH4, by rw [upd_ne hSE]; exact hS4, hlen4, E4.add upd_same f2 h2S hne2 hk, by rw [upd_ne hanE, upd_ne h2n.symm]; exact hn3, fun kv hkv => ?_⟩ (by simp) ?_ (by rw [List.length_append]; exact Nat.le_refl _)
                  · rcases List.mem_append.mp hkv with h | h
                    · exact L.nn kv h
                    · rw [List.mem_singleton] at h
                      subst h
                      exact h2n
                  · have e1 : flat (fun b => if b = t2 then [] else ls' b) kvs' = flat ls' kvs' := flat_congr fun kv hk => if_neg (hne2 kv hk)
                    rw [← e1]
                    unfold flat
                    rw [List.flatMap_append]
                    simp [at1]
              · have hz0 : ss'.getD c 0 ≠ 0 := by have := d_ne hg2; omega
                exact ⟨ss', kvs', ls', some (vI c), rfl, L, Mid_mono (hM.skip (d := c) (.inr hz0)) tkE, hmeas⟩
            · have hw : weigh m c = 0 := by
                have h0 : ¬ (0 : Int) < (((wsOf m).getD c 0 : Nat) : Int) := fun z => hg (decide_eq_true z)
                rw [wsOf_get m hcn] at h0
                omega
              exact ⟨ss', kvs', ls', some (vI c), rfl, L, Mid_mono (hM.skip (d := c) (.inl hw)) tkE, hmeas⟩
          · rintro σ H3 ⟨ss', kvs', ls', v8'', rfl, L, hM, hmeas⟩
            refine ⟨ss', kvs', ls', some (vI qc), v8'', rfl, L, hM.out fun d hd => ?_, fun y c hyc => (hM.ent y c (List.mem_append_right _ hyc)).2.2.2, hmeas⟩
            rw [List.length_map, List.take_length]
            exact (mem_nbs T.w1 hqn).mpr (adj_symm m _ _ hd)
        · rintro σ H2 ⟨ss2, kvs2, ls2, v7', v8', rfl, L, hO2, hm2, hM2⟩
          rw [List.length_map, List.drop_length] at hO2
          exact ⟨_, by omega, ss2, kvs2, ls2, _, _, v7', v8', rfl, L.sm, L.s, L.sl, L.e, hO2, rfl, by omega⟩
      · -- nothing is left
        have e0 : kvs = [] := by
          cases kvs with
          | nil => rfl
          | cons x r => exact absurd rfl hc
        subst e0
        exact ⟨_, rfl, q H1 aS ss sH faS hS hsl hO.toSums⟩
end
end Rv
end
section
set_option Elab.async false
set_option linter.all false
set_option maxRecDepth 100000
set_option maxHeartbeats 4000000
namespace Rv
open PySem PySem.Spec PyProof.Rows L2 RvM
open Sr38 (Rover)
abbrev sInit : Stmt := inClass (top 48) 0
abbrev sStep : Stmt := inClass (top 48) 1
abbrev sUnknown : Stmt := inClass (top 48) 2
abbrev sLook : Stmt := inClass (top 48) 3
abbrev sWeigh : Stmt := inClass (top 48) 4
abbrev sChoose : Stmt := inClass (top 48) 5
abbrev sGo : Stmt := inClass (top 48) 6
abbrev sSendSeen : Stmt := inClass (top 48) 7
abbrev sHear : Stmt := inClass (top 48) 8
abbrev sHearOut : Stmt := inClass (top 48) 9
abbrev sCan : Stmt := inClass (top 48) 10
abbrev sHearHad : Stmt := inClass (top 48) 11
abbrev sTick : Stmt := inClass (top 48) 12
abbrev sState : Stmt := inClass (top 48) 13

/-- where a rover and its lists stand -/
structure RA where
  p : Addr
  b : Addr
  g : Addr
  c : Addr
  be : Addr
  k : Addr
  s : Addr
  nb : List Addr
def rf (A : RA) (r : Rover) : List (Str × V) := [("size", vI r.n), ("beside", .ref A.b), ("ground", .ref A.g), ("home", vI r.home), ("room", vI r.room), ("costs", .ref A.c), ("place", vI r.place), ("left", vI r.left), ("been", .ref A.be), ("kept_out", .ref A.k), ("seen", .ref A.s),
  ("had", vI r.had), ("last_number", vI r.order), ("last_answer", vI (if r.yes then 1 else 0)), ("ticks", vI r.ticks)]
section
variable (A : RA) (r : Rover)
theorem rf_size : (rf A r).lookup ("size" : Str) = some (vI r.n) := by kernel_rfl
theorem rf_beside : (rf A r).lookup ("beside" : Str) = some (.ref A.b) := by kernel_rfl
theorem rf_ground : (rf A r).lookup ("ground" : Str) = some (.ref A.g) := by kernel_rfl
theorem rf_home : (rf A r).lookup ("home" : Str) = some (vI r.home) := by kernel_rfl
theorem rf_room : (rf A r).lookup ("room" : Str) = some (vI r.room) := by kernel_rfl
theorem rf_costs : (rf A r).lookup ("costs" : Str) = some (.ref A.c) := by kernel_rfl
theorem rf_place : (rf A r).lookup ("place" : Str) = some (vI r.place) := by kernel_rfl
theorem rf_left : (rf A r).lookup ("left" : Str) = some (vI r.left) := by kernel_rfl
theorem rf_been : (rf A r).lookup ("been" : Str) = some (.ref A.be) := by kernel_rfl
theorem rf_kept : (rf A r).lookup ("kept_out" : Str) = some (.ref A.k) := by kernel_rfl
theorem rf_seen : (rf A r).lookup ("seen" : Str) = some (.ref A.s) := by kernel_rfl
theorem rf_had : (rf A r).lookup ("had" : Str) = some (vI r.had) := by kernel_rfl
theorem rf_number : (rf A r).lookup ("last_number" : Str) = some (vI r.order) := by kernel_rfl
theorem rf_answer : (rf A r).lookup ("last_answer" : Str) = some (vI (if r.yes then 1 else 0)) := by kernel_rfl
theorem rf_ticks : (rf A r).lookup ("ticks" : Str) = some (vI r.ticks) := by kernel_rfl
theorem rf_putPlace (d : Nat) : putF "place" (vI d) (rf A r) = rf A { r with place := d } := by kernel_rfl
theorem rf_putLeft (d : Nat) : putF "left" (vI d) (rf A r) = rf A { r with left := d } := by kernel_rfl
theorem rf_putHad (d : Nat) : putF "had" (vI d) (rf A r) = rf A { r with had := d } := by kernel_rfl
theorem rf_putTicks (d : Nat) : putF "ticks" (vI d) (rf A r) = rf A { r with ticks := d } := by kernel_rfl
theorem rf_putNumber (d : Nat) : putF "last_number" (vI d) (rf A r) = rf A { r with order := d } := by kernel_rfl
theorem rf_putNo : putF "last_answer" (vI 0) (rf A r) = rf A { r with yes := false } := by kernel_rfl
theorem rf_putYes : putF "last_answer" (vI 1) (rf A r) = rf A { r with yes := true } := by kernel_rfl
end

def foot (A : RA) : List Addr := [A.p, A.c, A.be, A.k, A.s]
def costsL (r : Rover) : List Nat := (List.range r.n).map r.map.of
def flags (n : Nat) (l : List Nat) : List V := (List.range n).map fun c => V.bl (l.contains c)
structure RoverAt (C : Addr) (H : Hp) (A : RA) (r : Rover) (g : List Nat) : Prop where
  ob : ∃ dx, H A.p = some (.ins C dx (rf A r))
  hb : H A.b = some (.lst (A.nb.map V.ref))
  nb : NbAt H A.nb r.map.w r.map.h
  hg : H A.g = some (.lst (nL (g.take r.n)))
  hc : H A.c = some (.lst (nL (costsL r)))
  hbe : H A.be = some (.lst (flags r.n r.been))
  hk : H A.k = some (.lst (flags r.n r.avoid))
  hs : H A.s = some (.lst (nL r.saw))
  nd : [A.c, A.be, A.k, A.s].Nodup
  ap : ∀ a, a = A.b ∨ a = A.g ∨ a ∈ A.nb → a ∉ [A.c, A.be, A.k, A.s]
def Frame (A : RA) (H H' : Hp) : Prop := ∀ b o, H b = some o → b ∉ foot A → H' b = some o
theorem Frame.trans {A : RA} {H H1 H2 : Hp} (a : Frame A H H1) (b : Frame A H1 H2) : Frame A H H2 := fun c o e hc => b c o (a c o e hc) hc
theorem Frame.of {A : RA} {H H1 : Hp} (a : Same H H1) : Frame A H H1 := fun c o e _ => a c o e
theorem RoverAt.same {C : Addr} {H H' : Hp} {A : RA} {r : Rover} {g : List Nat} (R : RoverAt C H A r g) (s : Same H H') : RoverAt C H' A r g :=
  ⟨let ⟨dx, h⟩ := R.ob; ⟨dx, s _ _ h⟩, s _ _ R.hb, ⟨R.nb.1, fun c a h => s _ _ (R.nb.2 c a h)⟩, s _ _ R.hg, s _ _ R.hc, s _ _ R.hbe, s _ _ R.hk, s _ _ R.hs, R.nd, R.ap⟩

/-- what the class is as the top has made it -/
structure RT (K : PySem.W.Frag) (C : Addr) : Prop where
  cl : Cls K C
  size : NoAttr K C "size"
  beside : NoAttr K C "beside"
  ground : NoAttr K C "ground"
  home : NoAttr K C "home"
  room : NoAttr K C "room"
  costs : NoAttr K C "costs"
  place : NoAttr K C "place"
  left : NoAttr K C "left"
  been : NoAttr K C "been"
  kept_out : NoAttr K C "kept_out"
  seen : NoAttr K C "seen"
  had : NoAttr K C "had"
  last_number : NoAttr K C "last_number"
  last_answer : NoAttr K C "last_answer"
  ticks : NoAttr K C "ticks"
/-- self.f is read -/
theorem rd {K : PySem.W.Frag} {C : Addr} {H : Hp} {A : RA} {r : Rover} {g : List Nat} {f : Str} {v : V} {σ : L2.St} {Q : VK} (T : RT K C) (R : RoverAt C H A r g) (hσ : σ[0]? = some (some (.ref A.p))) (hn : NoAttr K C f) (hl : (rf A r).lookup f = some v) (q : Q v H) : tFld K (tVar 0) f σ H Q := by
  obtain ⟨dx, h⟩ := R.ob
  exact ⟨_, hσ, A.p, C, dx, _, v, rfl, h, T.cl, hn, hl, q⟩
theorem flags_get {n : Nat} {l : List Nat} {c : Nat} (h : c < n) : atI (flags n l) ((c : Nat) : Int) = some (.bl (l.contains c)) := by
  refine atI_nat ?_
  rw [flags, List.getElem?_map, List.getElem?_range h]
  rfl
theorem costs_len (r : Rover) : (costsL r).length = r.n := by simp [costsL]
theorem costs_get {r : Rover} {c : Nat} (h : c < r.n) : (costsL r).getD c 0 = r.map.of c := by
  rw [List.getD_eq_getElem?_getD, costsL, List.getElem?_map, List.getElem?_range h]
  rfl
theorem set_map_range {α : Type} {n d : Nat} {v : α} {f f' : Nat → α} (hd : d < n) (h1 : f' d = v) (h2 : ∀ c, c < n → c ≠ d → f' c = f c) : ((List.range n).map f).set d v = (List.range n).map f' := by
  apply List.ext_getElem?
  intro i
  rw [List.getElem?_set]
  by_cases e : d = i
  · subst e
    rw [if_pos rfl, List.length_map, List.length_range, if_pos hd, List.getElem?_map, List.getElem?_range hd, ← h1]
    rfl
  · rw [if_neg e, List.getElem?_map, List.getElem?_map]
    by_cases hi : i < n
    · rw [List.getElem?_range hi]
      exact congrArg some (h2 i hi (fun q => e q.symm)).symm
    · rw [List.getElem?_eq_none (by rw [List.length_range]; omega)]
      rfl
theorem lstNe {H : Hp} {a b : Addr} {C dx : Addr} {fs : List (Str × V)} {xs : List V} (h1 : H a = some (.ins C dx fs)) (h2 : H b = some (.lst xs)) : a ≠ b := ne_of h1 h2 (by intro z; cases z)
theorem nd4 {a b c d : Addr} (h : [a, b, c, d].Nodup) : a ≠ b ∧ a ≠ c ∧ a ≠ d ∧ b ≠ c ∧ b ≠ d ∧ c ≠ d := by
  simp only [List.nodup_cons, List.mem_cons, List.not_mem_nil, or_false, not_or, List.nodup_nil, and_true] at h
  exact ⟨h.1.1, h.1.2.1, h.1.2.2, h.2.1.1, h.2.1.2, h.2.2.1⟩
/-- a rover's fields and lists written anew -/
theorem RoverAt.put {C : Addr} {H H' : Hp} {A : RA} {r r' : Rover} {g : List Nat} (R : RoverAt C H A r g) (hw : r'.map.w = r.map.w) (hh : r'.map.h = r.map.h) (fr : Frame A H H') (ob : ∃ dx, H' A.p = some (.ins C dx (rf A r'))) (hc : H' A.c = some (.lst (nL (costsL r')))) (hbe : H' A.be = some (.lst (flags r'.n r'.been)))
    (hk : H' A.k = some (.lst (flags r'.n r'.avoid))) (hs : H' A.s = some (.lst (nL r'.saw))) : RoverAt C H' A r' g := by
  obtain ⟨dx, ho⟩ := R.ob
  have hn : r'.n = r.n := by show r'.map.w * r'.map.h = r.map.w * r.map.h; rw [hw, hh]
  have out : ∀ a, a = A.b ∨ a = A.g ∨ a ∈ A.nb → ∀ xs, H a = some (.lst xs) → a ∉ foot A := fun a ha xs hx hm => by
    have h1 := R.ap a ha
    have h2 : a ≠ A.p := (lstNe ho hx).symm
    simp only [foot, List.mem_cons, List.not_mem_nil, or_false] at hm h1
    rcases hm with q | q
    · exact h2 q
    · exact h1 q
  refine ⟨ob, fr _ _ R.hb (out _ (.inl rfl) _ R.hb), ⟨by rw [hw, hh]; exact R.nb.1, fun c a h => ?_⟩, by rw [hn]; exact fr _ _ R.hg (out _ (.inr (.inl rfl)) _ R.hg), hc, hbe, hk, hs, R.nd, R.ap⟩
  rw [hw, hh]
  exact fr _ _ (R.nb.2 c a h) (out _ (.inr (.inr (List.mem_of_getElem? h))) _ (R.nb.2 c a h))
end Rv
end
section
set_option Elab.async false
set_option linter.all false
set_option maxRecDepth 100000
set_option maxHeartbeats 4000000
namespace Rv
open PySem PySem.Spec PyProof.Rows L2 RvM
open Sr38 (Rover)
/-- a method of the text -/
def MCal (P : Program) (w : World) (K : PySem.W.Frag) (mg : Str → Option Value) (base : Heap) (C : Addr) (m : Str) (k : Nat) (ps : List Str) (sp : Sp) : Prop :=
  ∃ (f : Addr) (fd : FuncData), Meth K C m f ∧ Binds K fd ps [] ∧ FnOk P w K mg base CX0 k f fd ps sp
section
variable {P : Program} {w : World} {K : PySem.W.Frag} {mg : Str → Option Value} {base : Heap}
def spGo (C : Addr) : Sp := fun vs H Q _ => ∃ (A : RA) (r : Rover) (g : List Nat) (d : Nat), vs = [.ref A.p, vI d] ∧ RoverAt C H A r g ∧ d < r.n ∧ r.map.of d ≤ r.left ∧
  ∀ (H' : Hp) (p : Addr), RoverAt C H' A (r.goes d) g → Frame A H H' → H p = none → H' p = some (.lst (nL [1, d])) → Q (.ref p) H'
theorem scGo : FnScope ["self", "cell"] ["self", "cell"] (defScope sGo) := ⟨rfl, rfl, rfl, by decide +kernel, rfl, by decide +kernel, by decide +kernel⟩
theorem notFoot {A : RA} {b : Addr} (h : b ∉ foot A) : b ≠ A.p ∧ b ≠ A.c ∧ b ≠ A.be ∧ b ≠ A.k ∧ b ≠ A.s := by
  simp only [foot, List.mem_cons, List.not_mem_nil, or_false, not_or] at h
  exact h
theorem ok_go {f C : Addr} {fd : FuncData} (F : Fun K "go" "Rover.go" sGo f fd) (G : Gs mg) (T : RT K C) : FnOk P w K mg base CX0 1 f fd ["self", "cell"] (spGo C) := by
  refine F.ok scGo (fun vs H Q E h => ?_) (fun cdv A' outer s H vs Q E hr h => ?_)
  · obtain ⟨A, r, g, d, rfl, _⟩ := h
    rfl
  · obtain ⟨A, r, g, d, rfl, R, hd, hle, q⟩ := h
    obtain ⟨dx, ho⟩ := R.ob
    refine ⟨_, pss_cons (ps_fld (pv 0) (pv 1) rfl) (pss_cons (ps_fld (pv 0) (pe_op op_sub (pe_fld (pv 0) rfl) (pe_ix ix_list (pe_fld (pv 0) rfl) (pv 1) (fun _ _ => rfl))) rfl)
      (pss_cons (ps_asg pe_bl (pg_sub (pe_fld (pv 0) rfl) (pv 1) set_list)) (pss_one (ps_ret (pe_lst (pa_cons (pe_gi rfl G.WENT) (pa_cons (pv 1) pa_nil))))))), ?_⟩
    refine ⟨_, rfl, _, rfl, A.p, C, dx, _, rfl, ho, T.cl, T.place, (by show 15 < 1000; decide), ?_⟩
    have e1 : upd H A.p (.ins C dx (putF "place" (vI d) (rf A r))) A.p = some (.ins C dx (rf A { r with place := d })) := by rw [rf_putPlace]; exact upd_same
    have hc1 : ∀ o, upd H A.p o A.c = some (.lst (nL (costsL r))) := fun o => by rw [upd_ne (lstNe ho R.hc).symm]; exact R.hc
    refine ⟨_, rfl, A.p, C, dx, _, _, rfl, e1, T.cl, T.left, rf_left _ _, _, rfl, A.p, C, dx, _, _, rfl, e1, T.cl, T.costs, rf_costs _ _, _, rfl, A.c, _, _, _, rfl, rfl, SqL.of (hc1 _), nums_at (by rw [costs_len]; exact hd), _, _, rfl, rfl, _, rfl, A.p, C, dx, _, rfl, e1, T.cl, T.left, (by show 15 < 1000; decide), ?_⟩
    have ev : V.int ((r.left : Int) - (((costsL r).getD d 0 : Nat) : Int)) = vI (r.left - r.map.of d) := by rw [costs_get hd, vI]; congr 1; omega
    have e2 : upd (upd H A.p (.ins C dx (putF "place" (vI d) (rf A r)))) A.p (.ins C dx (putF "left" (V.int ((r.left : Int) - (((costsL r).getD d 0 : Nat) : Int))) (rf A { r with place := d }))) A.p = some (.ins C dx (rf A { r with place := d, left := r.left - r.map.of d })) := by
      rw [ev, rf_putLeft]; exact upd_same
    have hbe : ∀ o o', upd (upd H A.p o) A.p o' A.be = some (.lst (flags r.n r.been)) := fun o o' => by rw [upd_ne (lstNe ho R.hbe).symm, upd_ne (lstNe ho R.hbe).symm]; exact R.hbe
    refine ⟨_, rfl, A.p, C, dx, _, _, rfl, e2, T.cl, T.been, rf_been _ _, _, rfl, A.be, _, _, d, rfl, rfl, hbe _ _, ixN_nat (by simp [flags]; exact hd), ?_⟩
    refine ⟨_, rfl, (by show 2 ≤ sizeLine; decide), fun p hp => ?_⟩
    have pB : A.p ≠ A.be := lstNe ho R.hbe
    have pC := lstNe ho R.hc
    have pK := lstNe ho R.hk
    have pS := lstNe ho R.hs
    obtain ⟨n1, n2, n3, n4, n5, n6⟩ := nd4 R.nd
    have put : ∀ {b : Addr} {o : HO}, H b = some o → b ≠ A.p → b ≠ A.be → _ = some o := fun {b o} e h1 h2 => by
      have q0 : upd (upd (upd (upd H A.p (.ins C dx (putF "place" (vI d) (rf A r)))) A.p (.ins C dx (putF "left" (V.int ((r.left : Int) - (((costsL r).getD d 0 : Nat) : Int))) (rf A { r with place := d })))) A.be (.lst ((flags r.n r.been).set d (.bl true)))) p (.lst [V.int 1, vI d]) b = some o := by
        have q1 : upd (upd (upd H A.p (.ins C dx (putF "place" (vI d) (rf A r)))) A.p (.ins C dx (putF "left" (V.int ((r.left : Int) - (((costsL r).getD d 0 : Nat) : Int))) (rf A { r with place := d })))) A.be (.lst ((flags r.n r.been).set d (.bl true))) b = some o := by
          rw [upd_ne h2, upd_ne h1, upd_ne h1]; exact e
        rw [upd_ne (ne_of_none q1 hp)]; exact q1
      exact q0
    have np : ∀ {b : Addr}, upd (upd (upd H A.p (.ins C dx (putF "place" (vI d) (rf A r)))) A.p (.ins C dx (putF "left" (V.int ((r.left : Int) - (((costsL r).getD d 0 : Nat) : Int))) (rf A { r with place := d })))) A.be (.lst ((flags r.n r.been).set d (.bl true))) b ≠ none → b ≠ p := fun h e => h (by rw [e]; exact hp)
    have hbeen : (flags r.n r.been).set d (.bl true) = flags (r.goes d).n (r.goes d).been := by
      refine set_map_range hd ?_ fun c _ hcd => ?_
      · have : ((r.goes d).been.contains d) = true := by
          show (if r.been.contains d then r.been else r.been ++ [d]).contains d = true
          split
          · assumption
          · simp
        rw [this]
      · have : ((r.goes d).been.contains c) = r.been.contains c := by
          show (if r.been.contains d then r.been else r.been ++ [d]).contains c = _
          split
          · rfl
          · simp [hcd]
        rw [this]
    have fr : Frame A H _ := fun b o e hb => put e (notFoot hb).1 (notFoot hb).2.2.1
    have hp0 : H p = none := by
      cases e : H p with
      | none => rfl
      | some o =>
        by_cases z1 : p = A.be
        · rw [z1, upd_same] at hp; cases hp
        · by_cases z2 : p = A.p
          · rw [upd_ne z1, z2, upd_same] at hp; cases hp
          · rw [upd_ne z1, upd_ne z2, upd_ne z2, e] at hp; cases hp
    refine q _ p (R.put rfl rfl fr ⟨dx, ?_⟩ (put R.hc pC.symm n1) ?_ (put R.hk pK.symm n4.symm) (put R.hs pS.symm n5.symm)) fr hp0 upd_same
    · rw [upd_ne (np (by rw [upd_ne pB, e2]; simp)), upd_ne pB, e2]
      rfl
    · rw [upd_ne (np (by rw [upd_same]; simp)), upd_same, hbeen]
end
end Rv
end
section
set_option Elab.async false
set_option linter.all false
set_option maxRecDepth 100000
set_option maxHeartbeats 4000000
namespace Rv
open PySem PySem.Spec PyProof.Rows L2 RvM
open Sr38 (Rover)
/-- o.m(..) of an own class's method, m known by its promise -/
theorem pe_mc {X : Cx} {C : Addr} {o : Expr} {ta : TE} {m : Str} {k : Nat} {ps : List Str} {sp : Sp} {e : Expr} {es : List Expr} {t : TA} {apos pos : Pos} (M : MCal X.prog X.w X.K X.mg X.base C m k ps sp) (c : Cls X.K C) (hr : Room k X.A) (he : PE X o ta) (ha : PA X (e :: es) t)
    (hst : starEach (e :: es) X.env = (false, eval e X.env) :: starEach es X.env := by rfl) (hpl : (backTo pos (starEach es X.env)).any (·.1) = false := by rfl)
    (ht : ∃ pl : Sem Bool, eval (.Call (.Attribute o m apos) (e :: es) [] pos) X.env = (do
      let ov ← eval o X.env
      standAt apos.atName
      let (f, first) ← holding [ov] (getMethod ov m pl)
      callWith pos f first (backTo pos (starEach (e :: es) X.env)) (backToKw pos (keywordEach [] X.env))) := by exact ⟨_, rfl⟩) : PE X (.Call (.Attribute o m apos) (e :: es) [] pos) (tMeth C m sp [] E0 ta t) := by
  obtain ⟨f, fd, hm, hb, F⟩ := M
  obtain ⟨pl, ht⟩ := ht
  exact pe_meth (pl := pl) he c hm F hr hb .nil pass0 ha hst hpl ht
theorem pe_mc0 {X : Cx} {C : Addr} {o : Expr} {ta : TE} {m : Str} {k : Nat} {ps : List Str} {sp : Sp} {apos pos : Pos} (M : MCal X.prog X.w X.K X.mg X.base C m k ps sp) (c : Cls X.K C) (hr : Room k X.A) (he : PE X o ta)
    (ht : ∃ pl : Sem Bool, eval (.Call (.Attribute o m apos) [] [] pos) X.env = (do
      let ov ← eval o X.env
      standAt apos.atName
      let (f, first) ← holding [ov] (getMethod ov m pl)
      callWith pos f first (backTo pos (starEach [] X.env)) (backToKw pos (keywordEach [] X.env))) := by exact ⟨_, rfl⟩) : PE X (.Call (.Attribute o m apos) [] [] pos) (tMeth C m sp [] E0 ta tNil) := by
  obtain ⟨f, fd, hm, hb, F⟩ := M
  obtain ⟨pl, ht⟩ := ht
  exact pe_meth0 (pl := pl) he c hm F hr hb .nil pass0 ht

theorem opI {r : R2} {ta tb : TE} {σ : L2.St} {H : Hp} {Q : VK} (h : ta σ H fun x H1 => tb σ H1 fun y H2 => r x y H2 Q) : tOp r ta tb σ H Q := h
theorem cb1 {r : List V → Hp → VK → Prop} {ta : TE} {σ : L2.St} {H : Hp} {Q : VK} (h : ta σ H fun x H1 => r [x] H1 Q) : tCB r (tCons ta tNil) σ H Q := h
theorem cI {v : V} {σ : L2.St} {H : Hp} {Q : VK} (h : Q v H) : tC v σ H Q := h
theorem call1 {sp : Sp} {E : XK} {ta : TE} {σ : L2.St} {H : Hp} {Q : VK} (h : ta σ H fun x H1 => sp [x] H1 Q E) : tCall sp [] E (tCons ta tNil) σ H Q := h
theorem call2 {sp : Sp} {E : XK} {ta tb : TE} {σ : L2.St} {H : Hp} {Q : VK} (h : ta σ H fun x H1 => tb σ H1 fun y H2 => sp [x, y] H2 Q E) : tCall sp [] E (tCons ta (tCons tb tNil)) σ H Q := h
theorem call3 {sp : Sp} {E : XK} {ta tb tc : TE} {σ : L2.St} {H : Hp} {Q : VK} (h : ta σ H fun x H1 => tb σ H1 fun y H2 => tc σ H2 fun z H3 => sp [x, y, z] H3 Q E) : tCall sp [] E (tCons ta (tCons tb (tCons tc tNil))) σ H Q := h
theorem call4 {sp : Sp} {E : XK} {ta tb tc td : TE} {σ : L2.St} {H : Hp} {Q : VK} (h : ta σ H fun x H1 => tb σ H1 fun y H2 => tc σ H2 fun z H3 => td σ H3 fun u H4 => sp [x, y, z, u] H4 Q E) : tCall sp [] E (tCons ta (tCons tb (tCons tc (tCons td tNil)))) σ H Q := h
def iN (l : List Nat) : List Int := l.map fun (n : Nat) => (n : Int)
abbrev iL (l : List Int) : List V := l.map V.int
theorem nL_iN (l : List Nat) : nL l = iL (iN l) := nL_int l
section
variable {P : Program} {w : World} {K : PySem.W.Frag} {mg : Str → Option Value} {base : Heap}
def spWeigh (C : Addr) : Sp := fun vs H Q _ => ∃ (A : RA) (r : Rover) (g : List Nat), vs = [.ref A.p] ∧ RoverAt C H A r g ∧ WF r g ∧ NewList H Q (nL (wsOf r.free))
theorem scWeigh : FnScope ["self", "cell"] ["self"] (defScope sWeigh) := ⟨rfl, rfl, rfl, by decide +kernel, rfl, by decide +kernel, by decide +kernel⟩
theorem ok_weigh {f C : Addr} {fd : FuncData} (F : Fun K "weigh" "Rover.weigh" sWeigh f fd) (G : Gs mg) (T : RT K C) (CW : Cal P w K mg base "weight" 1 ["cost", "kept_out"] spWeight) : FnOk P w K mg base CX0 2 f fd ["self"] (spWeigh C) := by
  refine F.ok scWeigh (fun vs H Q E h => ?_) (fun cdv A' outer s H vs Q E hr h => ?_)
  · obtain ⟨A, r, g, rfl, _⟩ := h
    rfl
  · obtain ⟨A, r, g, rfl, R, W, q⟩ := h
    have n256 := W.n256
    refine ⟨_, pss_one (ps_ret (pe_lc (own := [("cell", 1)]) rfl scWeigh.nd (pi_range1 rfl G.range (pa_cons (pe_fld (pv 0) rfl) pa_nil)) (blkOk_by (by kernel_rfl))
      (fun _ _ _ _ _ => pg_name (i := 1) scWeigh.nd rfl (Or.inl rfl)) (fun _ _ _ _ _ => pts_nil) (fun _ _ _ _ _ => pe_cal CW hr rfl (pa_cons (pe_ix (ixK (K := K) rfl) (pe_fldK (K := K) rfl (pv 0) rfl) (pv 1) (fun _ _ => rfl)) (pa_cons (pe_ix (ixK (K := K) rfl) (pe_fldK (K := K) rfl (pv 0) rfl) (pv 1) (fun _ _ => rfl)) pa_nil))))), ?_⟩
    refine rd T R rfl T.size (rf_size _ _) ⟨_, rfl, by omega, by omega, fun D hD => ?_⟩
    rw [Int.toNat_natCast]
    refine lc_range (fun i H' => H' D = some (.lst (nL ((wsOf r.free).take i))) ∧ Same H H') ⟨upd_same, same_upd hD⟩ ?_ ?_
    · rintro i H1 hi ⟨hd, s1⟩
      have R1 := R.same s1
      refine ⟨rfl, tYes_if ?_⟩
      rw [Int.zero_add]
      refine call2 (opI (rd T R1 rfl T.costs (rf_costs _ _) ?_))
      refine ⟨_, rfl, A.c, _, _, _, rfl, rfl, SqL.of R1.hc, nums_at (by rw [costs_len]; exact hi), ?_⟩
      refine opI (rd T R1 rfl T.kept_out (rf_kept _ _) ?_)
      refine ⟨_, rfl, A.k, _, _, _, rfl, rfl, SqL.of R1.hk, flags_get hi, r.map.of i, r.avoid.contains i, ?_, ?_⟩
      · rw [costs_get hi]
      have e : (if r.map.of i = 0 ∨ r.map.of i = 255 ∨ r.avoid.contains i = true then 0 else 1024 * r.map.of i + 1) = weigh r.free i := by
        show _ = weigh (Sr38.without r.map r.avoid) i
        rw [weigh_without hi (W.ck i)]
        have : (r.avoid.contains i = true) ↔ i ∈ r.avoid := by simp
        simp only [this]
      rw [e]
      have hi' : i < (wsOf r.free).length := by rw [wsOf_len]; exact hi
      have ew : (wsOf r.free)[i]? = some (weigh r.free i) := by
        rw [wsOf, List.getElem?_map, List.getElem?_range (show i < r.free.n from hi)]; rfl
      refine ⟨_, hd, ?_, ?_, fun b o e => by rw [upd_ne (ne_of_none e hD)]; exact s1 _ _ e⟩
      · rw [List.length_map, List.length_take]
        exact Nat.lt_of_le_of_lt (Nat.min_le_left _ _) (Nat.lt_of_lt_of_le (show i < 257 by omega) (by decide))
      · rw [upd_same, take_snoc ew, nL, nL, List.map_append]; rfl
    · rintro H1 ⟨hd, s1⟩
      rw [show (wsOf r.free).take r.n = wsOf r.free from List.take_of_length_le (by rw [wsOf_len]; exact Nat.le_refl _)] at hd
      exact q H1 D s1 hD hd
theorem saw_le {r : Rover} {g : List Nat} (W : WF r g) : r.saw.length ≤ 256 := Nat.le_trans (nodup_len r.n r.saw W.sn fun x hx => ((W.sm x).mp hx).1) W.n256
theorem tells_some {r : Rover} {c : Nat} (h : r.saw[r.had]? = some c) (hk : r.had < 65535) : r.tells.flatMap Sr38Neutral.told = iN (3 :: msg 3 (r.had + 1) c (r.map.of c)) := by
  unfold Rover.tells
  rw [h]
  have e : (r.had + 1) / 256 % 256 = (r.had + 1) / 256 := Nat.mod_eq_of_lt (by omega)
  simp [Sr38Neutral.told, Sr38Neutral.ints, Sr38.bytesOf, Sr38.two, iN, msg, e]
theorem tells_none {r : Rover} (h : r.saw[r.had]? = none) : r.tells = [] := by
  unfold Rover.tells
  rw [h]
def spSendSeen (C : Addr) : Sp := fun vs H Q _ => ∃ (A : RA) (r : Rover) (g : List Nat), vs = [.ref A.p] ∧ RoverAt C H A r g ∧ WF r g ∧ NewList H Q (iL (r.tells.flatMap Sr38Neutral.told))
theorem scSendSeen : FnScope ["self", "cell"] ["self"] (defScope sSendSeen) := ⟨rfl, rfl, rfl, by decide +kernel, rfl, by decide +kernel, by decide +kernel⟩
theorem ok_sendSeen {f C : Addr} {fd : FuncData} (F : Fun K "send_seen" "Rover.send_seen" sSendSeen f fd) (G : Gs mg) (T : RT K C) (CS : Cal P w K mg base "send" 2 ["kind", "number", "first", "second"] spSend) : FnOk P w K mg base CX0 3 f fd ["self"] (spSendSeen C) := by
  refine F.ok scSendSeen (fun vs H Q E h => ?_) (fun cdv A' outer s H vs Q E hr h => ?_)
  · obtain ⟨A, r, g, rfl, _⟩ := h
    rfl
  · obtain ⟨A, r, g, rfl, R, W, q⟩ := h
    refine ⟨_, pss_cons (ps_if (pt_cmpR op_eq (pe_fld (pv 0) rfl) (pe_callB call_len_seq (by rfl) G.len PySem.boot_len (pa_cons (pe_fld (pv 0) rfl) pa_nil)) (nomark _)) (pss_one (ps_ret (pe_lst pa_nil))) pss_nil)
      (pss_cons (ps_set (i := 1) scSendSeen.nd rfl (Or.inl rfl) (pe_ix ix_list (pe_fld (pv 0) rfl) (pe_fld (pv 0) rfl) (fun _ _ => rfl)))
      (pss_one (ps_ret (pe_cal CS hr rfl (pa_cons (pe_gi rfl G.SEEN) (pa_cons (pe_op op_add (pe_fld (pv 0) rfl) pe_int) (pa_cons (pv 1) (pa_cons (pe_ix ix_list (pe_fld (pv 0) rfl) (pv 1) (fun _ _ => rfl)) pa_nil)))))))), ?_⟩
    refine opI (rd T R rfl T.had (rf_had _ _) (cb1 (rd T R rfl T.seen (rf_seen _ _) ?_)))
    refine ⟨A.s, _, rfl, .inl (SqL.of R.hs), rfl, _, rfl, ite2 (fun hc => ?_) (fun hc => ?_)⟩
    · have hh := d_eq hc
      rw [List.length_map] at hh
      have hn : r.saw[r.had]? = none := List.getElem?_eq_none_iff.mpr (by omega)
      rw [tells_none hn] at q
      exact ⟨Nat.zero_le _, fun p hp => q _ p (same_upd hp) hp upd_same⟩
    · have hh := d_ne hc
      rw [List.length_map] at hh
      have hlt : r.had < r.saw.length := by have := W.hd; omega
      have hs := List.getElem?_eq_getElem hlt
      have hcn : r.saw[r.had] < r.n := ((W.sm _).mp (List.getElem_mem hlt)).1
      have h256 := saw_le W
      rw [tells_some hs (by omega)] at q
      have eg : r.saw.getD r.had 0 = r.saw[r.had] := by rw [List.getD_eq_getElem?_getD, hs]; rfl
      refine opI (rd T R rfl T.seen (rf_seen _ _) (rd T R rfl T.had (rf_had _ _) ?_))
      refine ⟨A.s, _, _, _, rfl, rfl, SqL.of R.hs, nums_at hlt, ?_⟩
      rw [eg]
      refine call4 (cI (opI (rd T R rfl T.had (rf_had _ _) ?_)))
      refine ⟨_, _, rfl, rfl, _, rfl, opI (rd T R rfl T.costs (rf_costs _ _) ?_)⟩
      refine ⟨_, rfl, A.c, _, _, _, rfl, rfl, SqL.of R.hc, nums_at (by rw [costs_len]; exact hcn), 3, r.had + 1, r.saw[r.had], r.map.of r.saw[r.had], ?_, fun H' p s1 hp e1 => ?_⟩
      · rw [costs_get hcn]; rfl
      · exact q H' p s1 hp (by rw [e1, nL_iN])
end
end Rv
end
section
set_option Elab.async false
set_option linter.all false
set_option maxRecDepth 100000
set_option maxHeartbeats 4000000
namespace Rv
open PySem PySem.Spec PyProof.Rows L2 RvM
open Sr38 (Rover)
theorem RoverAt.setF {C : Addr} {H : Hp} {A : RA} {r r' : Rover} {g : List Nat} {dx : Addr} {fs : List (Str × V)} (R : RoverAt C H A r g) (ho : H A.p = some (.ins C dx (rf A r))) (e : fs = rf A r') (hm : r'.map = r.map) (hb : r'.been = r.been) (ha : r'.avoid = r.avoid) (hs : r'.saw = r.saw) :
    RoverAt C (upd H A.p (.ins C dx fs)) A r' g ∧ Frame A H (upd H A.p (.ins C dx fs)) := by
  have fr : Frame A H (upd H A.p (.ins C dx fs)) := fun b o q hb => by rw [upd_ne (notFoot hb).1]; exact q
  have hn : r'.n = r.n := by show r'.map.n = r.map.n; rw [hm]
  have hc : costsL r' = costsL r := by unfold costsL; rw [hn, hm]
  refine ⟨R.put (by rw [hm]) (by rw [hm]) fr ⟨dx, by rw [upd_same, e]⟩ ?_ ?_ ?_ ?_, fr⟩
  · rw [upd_ne (lstNe ho R.hc).symm, hc]; exact R.hc
  · rw [upd_ne (lstNe ho R.hbe).symm, hn, hb]; exact R.hbe
  · rw [upd_ne (lstNe ho R.hk).symm, hn, ha]; exact R.hk
  · rw [upd_ne (lstNe ho R.hs).symm, hs]; exact R.hs
/-- a call on a rover is done: what it's now, what's answered -/
def Done (C : Addr) (H : Hp) (A : RA) (g : List Nat) (Q : VK) (r' : Rover) (out : List Int) : Prop :=
  ∀ (H' : Hp) (p : Addr), RoverAt C H' A r' g → Frame A H H' → H p = none → H' p = some (.lst (iL out)) → Q (.ref p) H'
/-- what's new isn't one of the rover's -/
theorem Frame.free {C : Addr} {A : RA} {H H' : Hp} {r : Rover} {g : List Nat} (R : RoverAt C H A r g) (f : Frame A H H') (R' : ∃ r', RoverAt C H' A r' g) {p : Addr} (h : H' p = none) : H p = none := by
  obtain ⟨r', R'⟩ := R'
  cases e : H p with
  | none => rfl
  | some o =>
    by_cases hp : p ∈ foot A
    · simp only [foot, List.mem_cons, List.not_mem_nil, or_false] at hp
      obtain ⟨dx, ho⟩ := R'.ob
      rcases hp with q | q | q | q | q
      · rw [q, ho] at h; cases h
      · rw [q, R'.hc] at h; cases h
      · rw [q, R'.hbe] at h; cases h
      · rw [q, R'.hk] at h; cases h
      · rw [q, R'.hs] at h; cases h
    · rw [f p o e hp] at h; cases h
section
variable {P : Program} {w : World} {K : PySem.W.Frag} {mg : Str → Option Value} {base : Heap}
def spTick (C : Addr) : Sp := fun vs H Q _ => ∃ (A : RA) (r : Rover) (g : List Nat), vs = [.ref A.p] ∧ RoverAt C H A r g ∧ WF r g ∧
  Done C H A g Q { r with ticks := r.ticks + 1 } (0 :: (if (r.ticks + 1) % 5 = 0 then r.tells else []).flatMap Sr38Neutral.told)
theorem scTick : FnScope ["self"] ["self"] (defScope sTick) := ⟨rfl, rfl, rfl, by decide +kernel, rfl, by decide +kernel, by decide +kernel⟩
theorem ok_tick {f C : Addr} {fd : FuncData} (F : Fun K "tick" "Rover.tick" sTick f fd) (G : Gs mg) (T : RT K C) (MS : MCal P w K mg base C "send_seen" 3 ["self"] (spSendSeen C)) (nm : ∀ A r, (rf A r).lookup ("send_seen" : Str) = none) : FnOk P w K mg base CX0 4 f fd ["self"] (spTick C) := by
  refine F.ok scTick (fun vs H Q E h => ?_) (fun cdv A' outer s H vs Q E hr h => ?_)
  · obtain ⟨A, r, g, rfl, _⟩ := h
    rfl
  · obtain ⟨A, r, g, rfl, R, W, q⟩ := h
    obtain ⟨dx, ho⟩ := R.ob
    refine ⟨_, pss_cons (ps_fld (pv 0) (pe_op op_add (pe_fld (pv 0) rfl) pe_int) rfl) (pss_cons (ps_if (pt_cmpR op_ne (pe_op op_mod (pe_fld (pv 0) rfl) (pe_gi rfl G.TICKS_APART)) pe_int (nomark _)) (pss_one (ps_ret (pe_lst (pa_cons pe_int pa_nil)))) pss_nil)
      (pss_one (ps_ret (pe_op op_cat (pe_lst (pa_cons pe_int pa_nil)) (pe_mc0 MS T.cl hr (pv 0)))))), ?_⟩
    refine ⟨_, rfl, A.p, C, dx, _, _, rfl, ho, T.cl, T.ticks, rf_ticks _ _, _, _, rfl, rfl, _, rfl, A.p, C, dx, _, rfl, ho, T.cl, T.ticks, (by show 15 < 1000; decide), ?_⟩
    obtain ⟨R1, fr1⟩ := R.setF ho (rf_putTicks A r (r.ticks + 1)) rfl rfl rfl rfl
    have W1 : WF { r with ticks := r.ticks + 1 } g := { W with }
    generalize hH1 : upd H A.p (HO.ins C dx (putF "ticks" (vI (r.ticks + 1)) (rf A r))) = H1 at R1 fr1
    have go : ∀ {X : Hp → Prop}, X H1 → X (upd H A.p (HO.ins C dx (putF "ticks" (V.int ((r.ticks : Int) + 1)) (rf A r)))) := fun x => by rw [← hH1] at x; exact x
    refine go (X := fun Z => tSeq _ _ _ _ Z) ?_
    refine opI (opI (rd T R1 rfl T.ticks (rf_ticks _ _) ?_))
    refine ⟨_, _, rfl, rfl, (by show (0 : Int) < 5; decide), rfl, _, rfl, ite2 (fun hc => ?_) (fun hc => ?_)⟩
    · have hm := n_ne hc
      rw [if_neg (fun z => hm (by show ((r.ticks + 1 : Nat) : Int) % 5 = 0; omega))] at q
      exact ⟨(by show 1 ≤ sizeLine; decide), fun p hp => q _ p (R1.same (same_upd hp)) (fr1.trans (Frame.of (same_upd hp))) (fr1.free R ⟨_, R1⟩ hp) upd_same⟩
    · have hm : ((r.ticks + 1 : Nat) : Int) % 5 = 0 := n_eq hc
      rw [if_pos (by omega)] at q
      refine ⟨(by show 1 ≤ sizeLine; decide), fun l hl => ?_⟩
      have R2 := R1.same (same_upd (o := .lst [V.int 0]) hl)
      obtain ⟨dx2, ho2⟩ := R2.ob
      refine ⟨_, rfl, A.p, dx2, _, rfl, ho2, nm _ _, A, _, g, rfl, R2, W1, fun H3 p s3 hp e3 => ?_⟩
      refine ⟨l, p, _, _, rfl, rfl, s3 _ _ upd_same, e3, ?_, fun z hz => ?_⟩
      · rw [List.length_map]
        have h0 : ((({ r with ticks := r.ticks + 1 } : Rover).tells).flatMap Sr38Neutral.told).length ≤ 9 := by
          cases es : r.saw[r.had]? with
          | none => rw [tells_none (r := { r with ticks := r.ticks + 1 }) es]; simp
          | some c =>
            have hlt := (List.getElem?_eq_some_iff.mp es).1
            have := saw_le W
            rw [tells_some (r := { r with ticks := r.ticks + 1 }) (c := c) es (by show r.had < 65535; omega)]; simp [iN, msg]
        show 1 + _ ≤ sizeLine
        rw [sizeLine_eq]
        omega
      · have sA := (same_upd (o := .lst [V.int 0]) hl).trans (s3.trans (same_upd (o := .lst ([V.int 0] ++ iL ((({ r with ticks := r.ticks + 1 } : Rover).tells).flatMap Sr38Neutral.told))) hz))
        refine q _ z (R1.same sA) (fr1.trans (Frame.of sA)) ?_ upd_same
        exact fr1.free R ⟨_, R1⟩ (((same_upd (o := .lst [V.int 0]) hl).trans s3).free hz)
end
end Rv
end
section
set_option Elab.async false
set_option linter.all false
set_option maxRecDepth 100000
set_option maxHeartbeats 4000000
namespace Rv
open PySem PySem.Spec PyProof.Rows L2 RvM
open Sr38 (Rover)
theorem count_flags {n : Nat} {l : List Nat} (nd : l.Nodup) (lt : ∀ c ∈ l, c < n) : ((List.range n).map fun c => l.contains c).countP id = l.length := by
  rw [List.countP_map, List.countP_eq_length_filter]
  refine List.Perm.length_eq ((List.perm_ext_iff_of_nodup (List.nodup_range.filter _) nd).mpr fun a => ?_)
  rw [List.mem_filter, List.mem_range]
  constructor
  · rintro ⟨_, h⟩
    simpa using h
  · intro h
    exact ⟨lt a h, by simpa using h⟩
theorem flags_eq (n : Nat) (l : List Nat) : flags n l = ((List.range n).map fun c => l.contains c).map V.bl := by rw [flags, List.map_map]; rfl
section
variable {P : Program} {w : World} {K : PySem.W.Frag} {mg : Str → Option Value} {base : Heap}
def spState (C : Addr) : Sp := fun vs H Q _ => ∃ (A : RA) (r : Rover) (g : List Nat), vs = [.ref A.p] ∧ RoverAt C H A r g ∧ WF r g ∧ NewList H Q (iL (iN [0, r.place, r.left, r.saw.length, r.had, r.order, r.been.length]))
theorem scState : FnScope ["self"] ["self"] (defScope sState) := ⟨rfl, rfl, rfl, by decide +kernel, rfl, by decide +kernel, by decide +kernel⟩
theorem ok_state {f C : Addr} {fd : FuncData} (F : Fun K "state" "Rover.state" sState f fd) (G : Gs mg) (T : RT K C) : FnOk P w K mg base CX0 1 f fd ["self"] (spState C) := by
  refine F.ok scState (fun vs H Q E h => ?_) (fun cdv A' outer s H vs Q E hr h => ?_)
  · obtain ⟨A, r, g, rfl, _⟩ := h
    rfl
  · obtain ⟨A, r, g, rfl, R, W, q⟩ := h
    obtain ⟨dx, ho⟩ := R.ob
    refine ⟨_, pss_one (ps_ret (pe_lst (pa_cons pe_int (pa_cons (pe_fld (pv 0) rfl) (pa_cons (pe_fld (pv 0) rfl) (pa_cons (pe_callB call_len_seq (by rfl) G.len PySem.boot_len (pa_cons (pe_fld (pv 0) rfl) pa_nil)) (pa_cons (pe_fld (pv 0) rfl) (pa_cons (pe_fld (pv 0) rfl)
      (pa_cons (pe_bm PySem.F.plainAttrs_list PySem.F.slot_list_count PySem.F.type_list_count mt_countT (pe_fld (pv 0) rfl) (pa_cons pe_bl pa_nil)) pa_nil))))))))), ?_⟩
    refine ⟨_, rfl, A.p, C, dx, _, _, rfl, ho, T.cl, T.place, rf_place _ _, _, rfl, A.p, C, dx, _, _, rfl, ho, T.cl, T.left, rf_left _ _, _, rfl, A.p, C, dx, _, _, rfl, ho, T.cl, T.seen, rf_seen _ _, A.s, _, rfl, .inl (SqL.of R.hs),
      _, rfl, A.p, C, dx, _, _, rfl, ho, T.cl, T.had, rf_had _ _, _, rfl, A.p, C, dx, _, _, rfl, ho, T.cl, T.last_number, rf_number _ _, _, rfl, A.p, C, dx, _, _, rfl, ho, T.cl, T.been, rf_been _ _, .inl ⟨rfl, _, SqL.of R.hbe⟩, A.be, _, rfl, rfl, SqL.of (by rw [← flags_eq]; exact R.hbe), (by show 7 ≤ sizeLine; decide), fun p hp => ?_⟩
    refine q _ p (same_upd hp) hp ?_
    rw [upd_same, count_flags W.bn W.bl, List.length_map]
    rfl
def spHearHad (C : Addr) : Sp := fun vs H Q _ => ∃ (A : RA) (r : Rover) (g : List Nat) (k : Nat), vs = [.ref A.p, vI k] ∧ RoverAt C H A r g ∧ WF r g ∧
  (if k = r.had + 1 ∧ k ≤ r.saw.length then Done C H A g Q { r with had := k } ((({ r with had := k } : Rover).tells).flatMap Sr38Neutral.told) else Done C H A g Q r [])
theorem scHearHad : FnScope ["self", "number"] ["self", "number"] (defScope sHearHad) := ⟨rfl, rfl, rfl, by decide +kernel, rfl, by decide +kernel, by decide +kernel⟩
theorem ok_hearHad {f C : Addr} {fd : FuncData} (F : Fun K "hear_had" "Rover.hear_had" sHearHad f fd) (G : Gs mg) (T : RT K C) (MS : MCal P w K mg base C "send_seen" 3 ["self"] (spSendSeen C)) (nm : ∀ A r, (rf A r).lookup ("send_seen" : Str) = none) : FnOk P w K mg base CX0 4 f fd ["self", "number"] (spHearHad C) := by
  refine F.ok scHearHad (fun vs H Q E h => ?_) (fun cdv A' outer s H vs Q E hr h => ?_)
  · obtain ⟨A, r, g, k, rfl, _⟩ := h
    rfl
  · obtain ⟨A, r, g, k, rfl, R, W, q⟩ := h
    obtain ⟨dx, ho⟩ := R.ob
    refine ⟨_, pss_cons (ps_if (PW.pt (pw_or (pt_cmpR op_ne (pv 1) (pe_op op_add (pe_fld (pv 0) rfl) pe_int) (nomark _)) (pw_or1 (pt_cmpR op_gt (pv 1) (pe_callB call_len_seq (by rfl) G.len PySem.boot_len (pa_cons (pe_fld (pv 0) rfl) pa_nil)) (nomark _))))) (pss_one (ps_ret (pe_lst pa_nil))) pss_nil)
      (pss_cons (ps_fld (pv 0) (pv 1) rfl) (pss_one (ps_ret (pe_mc0 MS T.cl hr (pv 0))))), ?_⟩
    have no : ¬ (k = r.had + 1 ∧ k ≤ r.saw.length) → tRet (tLst tNil) { nx := fun x H' => Q V.non H', rt := Q } (L2.start ["self", "number"] [V.ref A.p, vI k]) H := fun hn => by
      rw [if_neg hn] at q
      exact ⟨Nat.zero_le _, fun p hp => q _ p (R.same (same_upd hp)) (Frame.of (same_upd hp)) hp upd_same⟩
    refine ⟨_, rfl, _, rfl, A.p, C, dx, _, _, rfl, ho, T.cl, T.had, rf_had _ _, _, _, rfl, rfl, rfl, _, rfl, ite2 (fun hc => iteT ?_) (fun hc => ?_)⟩
    · have h1 := n_ne hc
      exact no fun z => h1 (by rw [z.1]; rfl)
    · have h1 := n_eq hc
      refine ⟨_, rfl, _, rfl, A.p, C, dx, _, _, rfl, ho, T.cl, T.seen, rf_seen _ _, A.s, _, rfl, .inl (SqL.of R.hs), _, _, rfl, rfl, _, rfl, ite2 (fun hc => ?_) (fun hc => ?_)⟩
      · have h2 := of_decide_eq_true hc
        rw [List.length_map] at h2
        exact no fun z => by omega
      · have h2 : k ≤ r.saw.length := by
          have : ¬ ((nL r.saw).length : Int) < (k : Int) := fun z => hc (decide_eq_true z)
          rw [List.length_map] at this
          omega
        rw [if_pos ⟨by omega, h2⟩] at q
        refine ⟨_, rfl, _, rfl, A.p, C, dx, _, rfl, ho, T.cl, T.had, (by show 15 < 1000; decide), ?_⟩
        obtain ⟨R1, fr1⟩ := R.setF ho (rf_putHad A r k) rfl rfl rfl rfl
        have W1 : WF { r with had := k } g := { W with hd := h2 }
        obtain ⟨dx2, ho2⟩ := R1.ob
        exact ⟨_, rfl, A.p, dx2, _, rfl, ho2, nm _ _, A, _, g, rfl, R1, W1, fun H3 p s3 hp e3 => q _ p (R1.same s3) (fr1.trans (Frame.of s3)) (fr1.free R ⟨_, R1⟩ hp) e3⟩
end
end Rv
end
section
set_option Elab.async false
set_option linter.all false
set_option maxRecDepth 100000
set_option maxHeartbeats 4000000
namespace Rv
open PySem PySem.Spec PyProof.Rows L2 RvM
open Sr38 (Rover)
theorem ws_set {r : Rover} {g : List Nat} {c : Nat} (W : WF r g) (hc : c < r.n) : (wsOf r.free).set c 0 = wsOf (Sr38.without r.map (c :: r.avoid)) := by
  show ((List.range r.n).map (weigh (Sr38.without r.map r.avoid))).set c 0 = (List.range r.n).map (weigh (Sr38.without r.map (c :: r.avoid)))
  have e : ∀ d, d < r.n → weigh (Sr38.without r.map (c :: r.avoid)) d = if d = c then 0 else weigh (Sr38.without r.map r.avoid) d := fun d hd => by
    rw [weigh_without hd (W.ck d), weigh_without hd (W.ck d)]
    by_cases q : d = c
    · rw [if_pos q, if_pos (.inr (.inr (by rw [q]; simp)))]
    · rw [if_neg q]
      simp only [List.mem_cons, q, false_or]
  exact set_map_range hc (by rw [e c hc, if_pos rfl]) fun d hd q => by rw [e d hd, if_neg q]
theorem RoverAt.field {K : PySem.W.Frag} {C : Addr} {H : Hp} {A : RA} {r : Rover} {g : List Nat} {aW : Addr} {m : Sr37.Map_} (R : RoverAt C H A r g) (W : WF r g) (hw : m.w = r.map.w) (hh : m.h = r.map.h) (h : H aW = some (.lst (nL (wsOf m)))) : Field K H m aW A.b A.nb :=
  ⟨by rw [hw]; exact W.w1, by rw [hw]; exact W.w2, by rw [hh]; exact W.h2, h, R.hb, by rw [hw, hh]; exact R.nb⟩
section
variable {P : Program} {w : World} {K : PySem.W.Frag} {mg : Str → Option Value} {base : Heap}
abbrev CLightest (P : Program) (w : World) (K : PySem.W.Frag) (mg : Str → Option Value) (base : Heap) : Prop := Cal P w K mg base "lightest" 1 ["weights", "beside", "start"] (spLightest K)
abbrev CTaken (P : Program) (w : World) (K : PySem.W.Frag) (mg : Str → Option Value) (base : Heap) : Prop := Cal P w K mg base "taken" 1 ["whole", "first"] spTaken
abbrev MWeigh (P : Program) (w : World) (K : PySem.W.Frag) (mg : Str → Option Value) (base : Heap) (C : Addr) : Prop := MCal P w K mg base C "weigh" 2 ["self"] (spWeigh C)
def spCan (C : Addr) : Sp := fun vs H Q _ => ∃ (A : RA) (r : Rover) (g : List Nat) (c : Nat) (y : Bool), vs = [.ref A.p, vI c] ∧ RoverAt C H A r g ∧ WF r g ∧ c < r.n ∧ Sr38Neutral.canB r c = some y ∧ ∀ H', Same H H' → Q (.bl y) H'
theorem scCan : FnScope ["self", "cell", "weights", "home_sums"] ["self", "cell"] (defScope sCan) := ⟨rfl, rfl, rfl, by decide +kernel, rfl, by decide +kernel, by decide +kernel⟩
theorem can_no {r : Rover} {c : Nat} {y : Bool} (h : Sr38Neutral.canB r c = some y) (hc : c = r.home ∨ c = r.place) : y = false := by
  unfold Sr38Neutral.canB at h
  rw [if_pos (.inr hc)] at h
  exact (Option.some.inj h).symm
theorem ok_can {f C : Addr} {fd : FuncData} (F : Fun K "can_keep_out" "Rover.can_keep_out" sCan f fd) (G : Gs mg) (T : RT K C) (MW : MWeigh P w K mg base C) (CL : CLightest P w K mg base) (CT : CTaken P w K mg base) (nm : ∀ A r, (rf A r).lookup ("weigh" : Str) = none) : FnOk P w K mg base CX0 3 f fd ["self", "cell"] (spCan C) := by
  refine F.ok scCan (fun vs H Q E h => ?_) (fun cdv A' outer s H vs Q E hr h => ?_)
  · obtain ⟨A, r, g, c, y, rfl, _⟩ := h
    rfl
  · obtain ⟨A, r, g, c, y, rfl, R, W, hc, hy, q⟩ := h
    obtain ⟨dx, ho⟩ := R.ob
    have hr1 : Room 1 _ := hr.mono (by decide)
    refine ⟨_, pss_cons (ps_if (PW.pt (pw_or (pt_cmpR op_eq (pv 1) (pe_fld (pv 0) rfl) (nomark _)) (pw_or1 (pt_cmpR op_eq (pv 1) (pe_fld (pv 0) rfl) (nomark _))))) (pss_one (ps_ret pe_bl)) pss_nil)
      (pss_cons (ps_set (i := 2) scCan.nd rfl (Or.inl rfl) (pe_mc0 MW T.cl hr (pv 0)))
      (pss_cons (ps_asg pe_int (pg_sub (pv 2) (pv 1) set_list))
      (pss_cons (ps_set (i := 3) scCan.nd rfl (Or.inl rfl) (pe_cal CL hr1 rfl (pa_cons (pv 2) (pa_cons (pe_fld (pv 0) rfl) (pa_cons (pe_fld (pv 0) rfl) pa_nil)))))
      (pss_cons (ps_if (pt_cmpR op_eq (pe_ix ix_list (pv 3) (pe_fld (pv 0) rfl) (fun _ _ => rfl)) pe_int (nomark _)) (pss_one (ps_ret pe_bl)) pss_nil)
      (pss_one (ps_ret (pe_cmpR op_le (pe_cal CT hr1 rfl (pa_cons (pe_ix ix_list (pv 3) (pe_fld (pv 0) rfl) (fun _ _ => rfl)) (pa_cons (pe_ix ix_list (pv 2) (pe_fld (pv 0) rfl) (fun _ _ => rfl)) pa_nil))) (pe_fld (pv 0) rfl) (nomark _)))))))), ?_⟩
    refine ⟨_, rfl, _, rfl, A.p, C, dx, _, _, rfl, ho, T.cl, T.home, rf_home _ _, rfl, _, rfl, ite2 (fun h1 => iteT ?_) (fun h1 => ?_)⟩
    · have := d_eq h1
      rw [can_no hy (.inl (by omega))] at q
      exact q H (Same.refl H)
    · have n1 := d_ne h1
      refine ⟨_, rfl, _, rfl, A.p, C, dx, _, _, rfl, ho, T.cl, T.place, rf_place _ _, rfl, _, rfl, ite2 (fun h2 => ?_) (fun h2 => ?_)⟩
      · have := d_eq h2
        rw [can_no hy (.inr (by omega))] at q
        exact q H (Same.refl H)
      · have n2 := d_ne h2
        refine ⟨_, rfl, A.p, dx, _, rfl, ho, nm _ _, A, r, g, rfl, R, W, fun H1 aW s1 hW e1 => ?_⟩
        refine ⟨_, rfl, _, rfl, aW, _, _, c, rfl, rfl, e1, ixN_nat (by rw [List.length_map, wsOf_len]; exact hc), ?_⟩
        have ews : (nL (wsOf r.free)).set c (V.int 0) = nL (wsOf (Sr38.without r.map (c :: r.avoid))) := by
          rw [← ws_set W hc]
          exact nL_set _ _ _
        rw [ews]
        have s2 : Same H (upd H1 aW (.lst (nL (wsOf (Sr38.without r.map (c :: r.avoid)))))) := fun b o e => by rw [upd_ne (ne_of_none e hW)]; exact s1 _ _ e
        have R2 := R.same s2
        obtain ⟨dx2, ho2⟩ := R2.ob
        have Fd := R2.field (K := K) (aW := aW) (m := Sr38.without r.map (c :: r.avoid)) W rfl rfl upd_same
        refine ⟨_, rfl, _, rfl, A.p, C, dx2, _, _, rfl, ho2, T.cl, T.beside, rf_beside _ _, _, rfl, A.p, C, dx2, _, _, rfl, ho2, T.cl, T.home, rf_home _ _, _, aW, A.b, A.nb, r.home, rfl, Fd, W.hm, fun H3 aS ss s3 hS e3 hl hSum => ?_⟩
        have R3 := R2.same s3
        obtain ⟨dx3, ho3⟩ := R3.ob
        have hpl : r.place < ss.length := by rw [hl]; exact W.pl
        obtain ⟨c1, c2⟩ := can_by_sums W hy (by omega) (by omega) hSum
        refine ⟨_, rfl, _, rfl, A.p, C, dx3, _, _, rfl, ho3, T.cl, T.place, rf_place _ _, aS, _, _, _, rfl, rfl, SqL.of e3, nums_at hpl, rfl, _, rfl, ite2 (fun h3 => ?_) (fun h3 => ?_)⟩
        · have := d_eq h3
          rw [c1 (by omega)] at q
          exact q H3 (s2.trans s3)
        · have n3 := d_ne h3
          rw [c2 (by omega)] at q
          have eW : (wsOf (Sr38.without r.map (c :: r.avoid))).getD r.place 0 = weigh (Sr38.without r.map (c :: r.avoid)) r.place := wsOf_get _ W.pl
          refine ⟨_, rfl, _, rfl, A.p, C, dx3, _, _, rfl, ho3, T.cl, T.place, rf_place _ _, aS, _, _, _, rfl, rfl, SqL.of e3, nums_at hpl, _, rfl, _, rfl, A.p, C, dx3, _, _, rfl, ho3, T.cl, T.place, rf_place _ _, aW, _, _, _, rfl, rfl, SqL.of (s3 _ _ upd_same), nums_at (by rw [wsOf_len]; exact W.pl), _, _, rfl,
            _, rfl, A.p, C, dx3, _, _, rfl, ho3, T.cl, T.left, rf_left _ _, _, _, rfl, rfl, ?_⟩
          rw [eW]
          exact q H3 (s2.trans s3)
end
end Rv
end
section
set_option Elab.async false
set_option linter.all false
set_option maxRecDepth 100000
set_option maxHeartbeats 4000000
namespace Rv
open PySem PySem.Spec PyProof.Rows L2 RvM
open Sr38 (Rover)
def ansOut (k : Nat) (y : Bool) : List Int := Sr38Neutral.told (.send (Sr38.bytesOf (.answer k y)))
theorem ansOut_eq {k : Nat} {y : Bool} (h : k ≤ 65535) : ansOut k y = iN (3 :: msg 4 k (if y then 1 else 0) 0) := by
  unfold ansOut
  have e : k / 256 % 256 = k / 256 := Nat.mod_eq_of_lt (by omega)
  simp [Sr38Neutral.told, Sr38Neutral.ints, Sr38.bytesOf, Sr38.two, iN, msg, e]
theorem RoverAt.keep {C : Addr} {H : Hp} {A : RA} {r : Rover} {g : List Nat} {c : Nat} (R : RoverAt C H A r g) (hc : c < r.n) :
    RoverAt C (upd H A.k (.lst ((flags r.n r.avoid).set c (.bl true)))) A { r with avoid := c :: r.avoid } g ∧ Frame A H (upd H A.k (.lst ((flags r.n r.avoid).set c (.bl true)))) := by
  have fr : Frame A H (upd H A.k (.lst ((flags r.n r.avoid).set c (.bl true)))) := fun b o q hb => by rw [upd_ne (notFoot hb).2.2.2.1]; exact q
  obtain ⟨dx, ho⟩ := R.ob
  obtain ⟨n1, n2, n3, n4, n5, n6⟩ := nd4 R.nd
  refine ⟨R.put rfl rfl fr ⟨dx, by rw [upd_ne (lstNe ho R.hk)]; exact ho⟩ (by rw [upd_ne n2]; exact R.hc) (by rw [upd_ne n4]; exact R.hbe) ?_ (by rw [upd_ne n6.symm]; exact R.hs), fr⟩
  rw [upd_same]
  have e : (flags r.n r.avoid).set c (.bl true) = flags r.n (c :: r.avoid) := set_map_range hc (by simp) fun d _ hd => by simp [hd]
  rw [e]
  rfl
section
variable {P : Program} {w : World} {K : PySem.W.Frag} {mg : Str → Option Value} {base : Heap}
abbrev CSend (P : Program) (w : World) (K : PySem.W.Frag) (mg : Str → Option Value) (base : Heap) : Prop := Cal P w K mg base "send" 2 ["kind", "number", "first", "second"] spSend
def spHearOut (C : Addr) : Sp := fun vs H Q _ => ∃ (A : RA) (r : Rover) (g : List Nat) (k c : Nat), vs = [.ref A.p, vI k, vI c] ∧ RoverAt C H A r g ∧ WF r g ∧ c < r.n ∧ k ≤ 65535 ∧
  ((k = r.order + 1 ∧ ∃ y, Sr38Neutral.canB r c = some y ∧ Done C H A g Q { r with order := k, yes := y, avoid := if y then c :: r.avoid else r.avoid } (ansOut k y)) ∨ (k ≠ r.order + 1 ∧ Done C H A g Q r (if k = r.order then ansOut k r.yes else [])))
theorem scHearOut : FnScope ["self", "number", "cell"] ["self", "number", "cell"] (defScope sHearOut) := ⟨rfl, rfl, rfl, by decide +kernel, rfl, by decide +kernel, by decide +kernel⟩
theorem ok_hearOut {f C : Addr} {fd : FuncData} (F : Fun K "hear_keep_out" "Rover.hear_keep_out" sHearOut f fd) (G : Gs mg) (T : RT K C) (MC : MCal P w K mg base C "can_keep_out" 3 ["self", "cell"] (spCan C)) (CS : CSend P w K mg base) (nm : ∀ A r, (rf A r).lookup ("can_keep_out" : Str) = none) : FnOk P w K mg base CX0 4 f fd ["self", "number", "cell"] (spHearOut C) := by
  refine F.ok scHearOut (fun vs H Q E h => ?_) (fun cdv A' outer s H vs Q E hr h => ?_)
  · obtain ⟨A, r, g, k, c, rfl, _⟩ := h
    rfl
  · obtain ⟨A, r, g, k, c, rfl, R, W, hc, hk, q⟩ := h
    obtain ⟨dx, ho⟩ := R.ob
    have hr2 : Room 2 _ := hr.mono (by decide)
    refine ⟨_, pss_cons (ps_if (pt_cmpR op_eq (pv 1) (pe_op op_add (pe_fld (pv 0) rfl) pe_int) (nomark _))
        (pss_cons (ps_fld (pv 0) (pv 1) rfl) (pss_cons (ps_fld (pv 0) (pe_gi rfl G.NO) rfl) (pss_one (ps_if (pt_val (pe_mc MC T.cl hr (pv 0) (pa_cons (pv 2) pa_nil))) (pss_cons (ps_fld (pv 0) (pe_gi rfl G.YES) rfl) (pss_one (ps_asg pe_bl (pg_sub (pe_fld (pv 0) rfl) (pv 2) set_list)))) pss_nil)))) pss_nil)
      (pss_cons (ps_if (pt_cmpR op_ne (pv 1) (pe_fld (pv 0) rfl) (nomark _)) (pss_one (ps_ret (pe_lst pa_nil))) pss_nil)
      (pss_one (ps_ret (pe_cal CS hr2 rfl (pa_cons (pe_gi rfl G.ANSWER) (pa_cons (pv 1) (pa_cons (pe_fld (pv 0) rfl) (pa_cons pe_int pa_nil)))))))), ?_⟩
    -- the end: the answer is sent if it's the last one's number
    have fin : ∀ (H1 : Hp) (r1 : Rover), RoverAt C H1 A r1 g → Frame A H H1 → r1.order ≤ 65535 → Done C H A g Q r1 (if k = r1.order then ansOut k r1.yes else []) →
        tSeq (tIfS (tTest (tOp rNe (tVar 1) (tFld K (tVar 0) "last_number"))) (tRet (tLst tNil)) tNext) (tRet (tCall spSend [] E0 (tCons (tC (V.int 4)) (tCons (tVar 1) (tCons (tFld K (tVar 0) "last_answer") (tCons (tC (V.int 0)) tNil))))))
          { nx := fun x H' => Q V.non H', rt := Q } [some (.ref A.p), some (vI k), some (vI c)] H1 := by
      intro H1 r1 R1 fr1 ho1 q1
      obtain ⟨dx1, ho1'⟩ := R1.ob
      refine ⟨_, rfl, _, rfl, A.p, C, dx1, _, _, rfl, ho1', T.cl, T.last_number, rf_number _ _, rfl, _, rfl, ite2 (fun h1 => ?_) (fun h1 => ?_)⟩
      · have := n_ne h1
        rw [if_neg (by omega)] at q1
        exact ⟨Nat.zero_le _, fun p hp => q1 _ p (R1.same (same_upd hp)) (fr1.trans (Frame.of (same_upd hp))) (fr1.free R ⟨_, R1⟩ hp) upd_same⟩
      · have := n_eq h1
        rw [if_pos (by omega), ansOut_eq hk] at q1
        refine ⟨_, rfl, _, rfl, A.p, C, dx1, _, _, rfl, ho1', T.cl, T.last_answer, rf_answer _ _, 4, k, (if r1.yes then 1 else 0), 0, rfl, fun H2 p s2 hp e2 => ?_⟩
        exact q1 _ p (R1.same s2) (fr1.trans (Frame.of s2)) (fr1.free R ⟨_, R1⟩ hp) (by rw [e2, nL_iN])
    refine ⟨_, rfl, _, rfl, A.p, C, dx, _, _, rfl, ho, T.cl, T.last_number, rf_number _ _, _, _, rfl, rfl, rfl, _, rfl, ite2 (fun h1 => ?_) (fun h1 => ?_)⟩
    · have hk1 : k = r.order + 1 := by have := d_eq h1; omega
      rcases q with ⟨_, y, hy, q⟩ | ⟨z, _⟩
      · refine ⟨_, rfl, _, rfl, A.p, C, dx, _, rfl, ho, T.cl, T.last_number, (by show 15 < 1000; decide), ?_⟩
        obtain ⟨R1, fr1⟩ := R.setF ho (rf_putNumber A r k) rfl rfl rfl rfl
        obtain ⟨dx1, ho1⟩ := R1.ob
        refine ⟨_, rfl, A.p, C, dx1, _, rfl, ho1, T.cl, T.last_answer, (by show 15 < 1000; decide), ?_⟩
        obtain ⟨R2, fr2⟩ := R1.setF ho1 (rf_putNo A { r with order := k }) rfl rfl rfl rfl
        obtain ⟨dx2, ho2⟩ := R2.ob
        have W2 : WF { r with order := k, yes := false } g := { W with od := hk }
        have fr12 := fr1.trans fr2
        refine ⟨_, rfl, A.p, dx2, _, rfl, ho2, nm _ _, _, rfl, A, _, g, c, y, rfl, R2, W2, hc, hy, fun H3 s3 => ⟨y, rfl, ite2 (fun hyt => ?_) (fun hyf => ?_)⟩⟩
        · subst hyt
          have R3 := R2.same s3
          obtain ⟨dx3, ho3⟩ := R3.ob
          refine ⟨_, rfl, A.p, C, dx3, _, rfl, ho3, T.cl, T.last_answer, (by show 15 < 1000; decide), ?_⟩
          obtain ⟨R4, fr4⟩ := R3.setF ho3 (rf_putYes A { r with order := k, yes := false }) rfl rfl rfl rfl
          obtain ⟨dx4, ho4⟩ := R4.ob
          refine ⟨_, rfl, A.p, C, dx4, _, _, rfl, ho4, T.cl, T.kept_out, rf_kept _ _, _, rfl, A.k, _, _, c, rfl, rfl, R4.hk, ixN_nat (by simp [flags]; exact hc), ?_⟩
          obtain ⟨R5, fr5⟩ := R4.keep hc
          refine fin _ _ R5 ((fr12.trans (Frame.of s3)).trans (fr4.trans fr5)) hk ?_
          show Done C H A g Q _ (if k = k then ansOut k true else [])
          rw [if_pos rfl]
          exact q
        · have hy0 : y = false := by cases y <;> simp_all
          subst hy0
          refine fin _ _ (R2.same s3) (fr12.trans (Frame.of s3)) hk ?_
          show Done C H A g Q _ (if k = k then ansOut k false else [])
          rw [if_pos rfl]
          exact q
      · exact absurd hk1 z
    · have hk1 : k ≠ r.order + 1 := by have := d_ne h1; omega
      rcases q with ⟨z, _⟩ | ⟨_, q⟩
      · exact absurd z hk1
      · exact fin H r R (Frame.of (Same.refl H)) W.od q
end
end Rv
end
section
set_option Elab.async false
set_option linter.all false
set_option maxRecDepth 100000
set_option maxHeartbeats 4000000
namespace Rv
open PySem PySem.Spec PyProof.Rows L2 RvM
open Sr38 (Rover)
/-- what's answered: the number, then what's done -/
def outOf (a : Sr38.Ans) (evs : List Sr38.Ev) : List Int := Sr38Neutral.given a ++ evs.flatMap Sr38Neutral.told
/-- a message of bytes: what the specification takes it for -/
def took (b : List Nat) : Option (List Nat) := if b.length = 8 then some b else none
theorem num_le {b : List Nat} (h : ∀ x ∈ b, x ≤ 255) : numOf b ≤ 65535 := by
  have g : ∀ i, b.getD i 0 ≤ 255 := fun i => by
    rw [List.getD_eq_getElem?_getD]
    cases e : b[i]? with
    | none => simp
    | some x => exact h x (List.mem_of_getElem? e)
  have h2 := g 2
  have h3 := g 3
  unfold RvM.numOf
  omega
theorem msg_len {k n a b : Nat} : (iN (3 :: msg k n a b)).length = 9 := by simp [iN, msg]
theorem tells_len {r : Rover} {g : List Nat} (W : WF r g) : (r.tells.flatMap Sr38Neutral.told).length ≤ 9 := by
  cases es : r.saw[r.had]? with
  | none => rw [tells_none es]; simp
  | some c =>
    have hlt := (List.getElem?_eq_some_iff.mp es).1
    have := saw_le W
    rw [tells_some es (by omega), msg_len]
    exact Nat.le_refl _
section
variable {P : Program} {w : World} {K : PySem.W.Frag} {mg : Str → Option Value} {base : Heap}
def spHear (C : Addr) : Sp := fun vs H Q _ => ∃ (A : RA) (r : Rover) (g : List Nat) (am : Addr) (b : List Nat) (evs : List Sr38.Ev) (r' : Rover) (ans : Sr38.Ans), vs = [.ref A.p, .ref am] ∧ RoverAt C H A r g ∧ WF r g ∧ H am = some (.lst (nL b)) ∧ (∀ x ∈ b, x ≤ 255) ∧
  Sr38Neutral.reckonR (Sr38Neutral.ground g) r (.heard (took b)) = some (evs, r', ans) ∧ Done C H A g Q r' (outOf ans evs)
theorem scHear : FnScope ["self", "m"] ["self", "m"] (defScope sHear) := ⟨rfl, rfl, rfl, by decide +kernel, rfl, by decide +kernel, by decide +kernel⟩
theorem took_len {b : List Nat} (h : b.length = 8) : took b = some b := if_pos h
theorem heard_out {r r' : Rover} {g : List Nat} {b : List Nat} {evs : List Sr38.Ev} {ans : Sr38.Ans} (ho : isOut r.n b = true) (h : Sr38Neutral.reckonR (Sr38Neutral.ground g) r (.heard (took b)) = some (evs, r', ans)) :
    (numOf b = r.order + 1 ∧ ∃ y, Sr38Neutral.canB r (b.getD 4 0) = some y ∧ r' = { r with order := numOf b, yes := y, avoid := if y then b.getD 4 0 :: r.avoid else r.avoid } ∧ outOf ans evs = 0 :: ansOut (numOf b) y) ∨
    (numOf b ≠ r.order + 1 ∧ r' = r ∧ outOf ans evs = 0 :: (if numOf b = r.order then ansOut (numOf b) r.yes else [])) := by
  have hl : b.length = 8 := by
    unfold isOut at ho
    simp only [Bool.and_eq_true] at ho
    exact framed_len ho.1.1
  unfold Sr38Neutral.reckonR at h
  rw [took_len hl] at h
  simp only [Option.bind_some, message_of, ho, if_true] at h
  by_cases hk : numOf b = r.order + 1
  · rw [if_pos hk] at h
    left
    refine ⟨hk, ?_⟩
    cases hy : Sr38Neutral.canB r (b.getD 4 0) with
    | none => rw [hy] at h; cases h
    | some y =>
      rw [hy] at h
      dsimp only at h
      cases h
      refine ⟨y, rfl, by rw [hk], ?_⟩
      simp [outOf, Sr38Neutral.given, ansOut, hk]
  · rw [if_neg hk] at h
    right
    cases h
    refine ⟨hk, rfl, ?_⟩
    by_cases h2 : numOf b = r.order
    · rw [if_pos h2, if_pos h2]
      simp [outOf, Sr38Neutral.given, ansOut]
    · rw [if_neg h2, if_neg h2]
      simp [outOf, Sr38Neutral.given]
theorem heard_had {r r' : Rover} {g : List Nat} {b : List Nat} {evs : List Sr38.Ev} {ans : Sr38.Ans} (hn : isOut r.n b = false) (ho : isHad b = true) (h : Sr38Neutral.reckonR (Sr38Neutral.ground g) r (.heard (took b)) = some (evs, r', ans)) :
    (if numOf b = r.had + 1 ∧ numOf b ≤ r.saw.length then r' = { r with had := numOf b } ∧ outOf ans evs = 0 :: (({ r with had := numOf b } : Rover).tells).flatMap Sr38Neutral.told else r' = r ∧ outOf ans evs = [0]) := by
  have hl : b.length = 8 := by
    unfold isHad at ho
    simp only [Bool.and_eq_true] at ho
    exact framed_len ho.1.1
  unfold Sr38Neutral.reckonR at h
  rw [took_len hl] at h
  simp only [Option.bind_some, message_of, hn, ho, if_true, Bool.false_eq_true, if_false] at h
  split at h
  next hc =>
    rw [if_pos hc]
    cases h
    exact ⟨rfl, rfl⟩
  next hc =>
    rw [if_neg hc]
    cases h
    exact ⟨rfl, rfl⟩
theorem heard_not {r r' : Rover} {g : List Nat} {b : List Nat} {evs : List Sr38.Ev} {ans : Sr38.Ans} (hn : isOut r.n b = false) (ho : isHad b = false) (h : Sr38Neutral.reckonR (Sr38Neutral.ground g) r (.heard (took b)) = some (evs, r', ans)) : r' = r ∧ outOf ans evs = [-71] := by
  unfold Sr38Neutral.reckonR at h
  unfold took at h
  by_cases hl : b.length = 8
  · rw [if_pos hl] at h
    simp only [Option.bind_some, message_of, hn, ho, Bool.false_eq_true, if_false] at h
    split at h
    next e =>
      split at e
      · cases e
      · split at e <;> cases e
    next e =>
      split at e
      · cases e
      · split at e <;> cases e
    next => cases h; exact ⟨rfl, rfl⟩
  · rw [if_neg hl] at h
    simp only [Option.bind_none] at h
    cases h
    exact ⟨rfl, rfl⟩
theorem ok_hear {f C : Addr} {fd : FuncData} (F : Fun K "hear" "Rover.hear" sHear f fd) (G : Gs mg) (T : RT K C) (CK : Cal P w K mg base "is_keep_out" 3 ["m", "size"] (spKeepOut K)) (CH : Cal P w K mg base "is_had" 3 ["m"] (spHad K)) (CN : Cal P w K mg base "number_of" 1 ["m"] (spNumberOf K))
    (MO : MCal P w K mg base C "hear_keep_out" 4 ["self", "number", "cell"] (spHearOut C)) (MH : MCal P w K mg base C "hear_had" 4 ["self", "number"] (spHearHad C)) (nm1 : ∀ A r, (rf A r).lookup ("hear_keep_out" : Str) = none) (nm2 : ∀ A r, (rf A r).lookup ("hear_had" : Str) = none) : FnOk P w K mg base CX0 5 f fd ["self", "m"] (spHear C) := by
  refine F.ok scHear (fun vs H Q E h => ?_) (fun cdv A' outer s H vs Q E hr h => ?_)
  · obtain ⟨A, r, g, am, b, evs, r', ans, rfl, _⟩ := h
    rfl
  · obtain ⟨A, r, g, am, b, evs, r', ans, rfl, R, W, hm, hb, hrec, q⟩ := h
    obtain ⟨dx, ho⟩ := R.ob
    have hr3 : Room 3 _ := hr.mono (by decide)
    have hr1 : Room 1 _ := hr.mono (by decide)
    refine ⟨_, pss_cons (ps_if (pt_val (pe_cal CK hr3 rfl (pa_cons (pv 1) (pa_cons (pe_fld (pv 0) rfl) pa_nil)))) (pss_one (ps_ret (pe_op op_cat (pe_lst (pa_cons pe_int pa_nil)) (pe_mc MO T.cl hr (pv 0) (pa_cons (pe_cal CN hr1 rfl (pa_cons (pv 1) pa_nil)) (pa_cons (pe_ix ix_list (pv 1) pe_int (fun _ _ => rfl)) pa_nil)))))) pss_nil)
      (pss_cons (ps_if (pt_val (pe_cal CH hr3 rfl (pa_cons (pv 1) pa_nil))) (pss_one (ps_ret (pe_op op_cat (pe_lst (pa_cons pe_int pa_nil)) (pe_mc MH T.cl hr (pv 0) (pa_cons (pe_cal CN hr1 rfl (pa_cons (pv 1) pa_nil)) pa_nil))))) pss_nil)
      (pss_one (ps_ret (pe_lst (pa_cons (pe_gi rfl G.BAD_MESSAGE) pa_nil))))), ?_⟩
    -- [0] + what the other call hands back
    have fin : ∀ (l : Addr) (hl : H l = none) (r1 : Rover) (out : List Int), out.length ≤ 9 → Done C H A g Q r1 (0 :: out) → Done C (upd H l (.lst [V.int 0])) A g (fun x H2 => rCat (.ref l) x H2 Q) r1 out := by
      intro l hl r1 out hlen q1 H2 p R2 fr2 hp e2
      have hlf : l ∉ foot A := fun hm => by
        simp only [foot, List.mem_cons, List.not_mem_nil, or_false] at hm
        rcases hm with z | z | z | z | z
        · rw [z, ho] at hl; cases hl
        · rw [z, R.hc] at hl; cases hl
        · rw [z, R.hbe] at hl; cases hl
        · rw [z, R.hk] at hl; cases hl
        · rw [z, R.hs] at hl; cases hl
      refine ⟨l, p, _, _, rfl, rfl, fr2 _ _ upd_same hlf, e2, ?_, fun z hz => ?_⟩
      · rw [List.length_map]
        show 1 + out.length ≤ sizeLine
        rw [sizeLine_eq]
        omega
      · have sz := same_upd (o := .lst ([V.int 0] ++ iL out)) hz
        have frA : Frame A H H2 := (Frame.of (same_upd hl)).trans fr2
        exact q1 _ z (R2.same sz) (frA.trans (Frame.of sz)) (frA.free R ⟨_, R2⟩ hz) upd_same
    refine ⟨_, rfl, _, rfl, A.p, C, dx, _, _, rfl, ho, T.cl, T.size, rf_size _ _, am, b, r.n, rfl, SqL.of hm, _, rfl, ite2 (fun h1 => ?_) (fun h1 => ?_)⟩
    · have hl8 : b.length = 8 := by
        have ho' := h1
        unfold isOut at ho'
        simp only [Bool.and_eq_true] at ho'
        exact framed_len ho'.1.1
      have hc4 : b.getD 4 0 < r.n := by
        have ho' := h1
        unfold isOut at ho'
        simp only [Bool.and_eq_true, decide_eq_true_eq] at ho'
        exact ho'.1.2
      refine ⟨(by show 1 ≤ sizeLine; decide), fun l hl => ?_⟩
      have s1 := same_upd (o := .lst [V.int 0]) hl
      have R1 := R.same s1
      obtain ⟨dx1, ho1⟩ := R1.ob
      refine ⟨_, rfl, A.p, dx1, _, rfl, ho1, nm1 _ _, _, rfl, am, b, rfl, SqL.of (s1 _ _ hm), hl8, _, rfl, am, _, _, _, rfl, rfl, SqL.of (s1 _ _ hm), nums_at (i := 4) (by omega), A, r, g, numOf b, b.getD 4 0, rfl, R1, W, hc4, num_le hb, ?_⟩
      rcases heard_out h1 hrec with ⟨hk, y, hy, rfl, eo⟩ | ⟨hk, rfl, eo⟩
      · rw [eo] at q
        exact .inl ⟨hk, y, hy, fin l hl _ _ (by rw [ansOut_eq (num_le hb), msg_len]; exact Nat.le_refl _) q⟩
      · rw [eo] at q
        refine .inr ⟨hk, fin l hl _ _ ?_ q⟩
        split
        · rw [ansOut_eq (num_le hb), msg_len]; exact Nat.le_refl _
        · simp
    · have h1f : isOut r.n b = false := by rw [← Bool.not_eq_true]; exact h1
      refine ⟨_, rfl, am, b, rfl, SqL.of hm, _, rfl, ite2 (fun h2 => ?_) (fun h2 => ?_)⟩
      · have hl8 : b.length = 8 := by
          have ho' := h2
          unfold isHad at ho'
          simp only [Bool.and_eq_true] at ho'
          exact framed_len ho'.1.1
        refine ⟨(by show 1 ≤ sizeLine; decide), fun l hl => ?_⟩
        have s1 := same_upd (o := .lst [V.int 0]) hl
        have R1 := R.same s1
        obtain ⟨dx1, ho1⟩ := R1.ob
        have hh := heard_had h1f h2 hrec
        refine ⟨_, rfl, A.p, dx1, _, rfl, ho1, nm2 _ _, _, rfl, am, b, rfl, SqL.of (s1 _ _ hm), hl8, A, r, g, numOf b, rfl, R1, W, ?_⟩
        by_cases hc : numOf b = r.had + 1 ∧ numOf b ≤ r.saw.length
        · rw [if_pos hc] at hh ⊢
          obtain ⟨rfl, eo⟩ := hh
          rw [eo] at q
          have W1 : WF { r with had := numOf b } g := { W with hd := hc.2 }
          exact fin l hl _ _ (tells_len W1) q
        · rw [if_neg hc] at hh ⊢
          obtain ⟨rfl, eo⟩ := hh
          rw [eo] at q
          exact fin l hl _ _ (Nat.zero_le _) q
      · have h2f : isHad b = false := by rw [← Bool.not_eq_true]; exact h2
        obtain ⟨rfl, eo⟩ := heard_not h1f h2f hrec
        rw [eo] at q
        exact ⟨(by show 1 ≤ sizeLine; decide), fun p hp => q _ p (R.same (same_upd hp)) (Frame.of (same_upd hp)) hp upd_same⟩
end
end Rv
end
section
set_option Elab.async false
set_option linter.all false
set_option maxRecDepth 100000
set_option maxHeartbeats 4000000
namespace Rv
open PySem PySem.Spec PyProof.Rows L2 RvM
open Sr38 (Rover)
section
variable {P : Program} {w : World} {K : PySem.W.Frag} {mg : Str → Option Value} {base : Heap}
def spUnknown (C : Addr) : Sp := fun vs H Q _ => ∃ (A : RA) (r : Rover) (g : List Nat), vs = [.ref A.p] ∧ RoverAt C H A r g ∧ WF r g ∧ NewList H Q (nL r.unseen)
theorem scUnknown : FnScope ["self", "in_sight", "cell"] ["self"] (defScope sUnknown) := ⟨rfl, rfl, rfl, by decide +kernel, rfl, by decide +kernel, by decide +kernel⟩
theorem pw_lt : ∀ {l : List Int}, l.Pairwise (· ≤ ·) → l.Nodup → l.Pairwise (· < ·)
  | [], _, _ => .nil
  | a :: l, h, hn => by
    rw [List.pairwise_cons] at h
    rw [List.nodup_cons] at hn
    exact .cons (fun b hb => by have h1 := h.1 b hb; have h2 : a ≠ b := fun e => hn.1 (e ▸ hb); omega) (pw_lt h.2 hn.2)
theorem ok_unknown {f C : Addr} {fd : FuncData} (F : Fun K "unknown_in_sight" "Rover.unknown_in_sight" sUnknown f fd) (G : Gs mg) (T : RT K C) : FnOk P w K mg base CX0 1 f fd ["self"] (spUnknown C) := by
  refine F.ok scUnknown (fun vs H Q E h => ?_) (fun cdv A' outer s H vs Q E hr h => ?_)
  · obtain ⟨A, r, g, rfl, _⟩ := h
    rfl
  · obtain ⟨A, r, g, rfl, R, W, q⟩ := h
    obtain ⟨dx, ho⟩ := R.ob
    have hpa : r.place < A.nb.length := by rw [R.nb.1]; exact W.pl
    have han := List.getElem?_eq_getElem hpa
    have hnb := R.nb.2 _ _ han
    generalize A.nb[r.place] = an at han hnb
    refine ⟨_, pss_cons (ps_set (i := 1) scUnknown.nd rfl (Or.inl rfl) (pe_callB (cr_sortedSet rfl) (by rfl) G.sorted bootSorted (pa_cons (pe_callTy (cr_set rfl) (by rfl) G.set bootSet (pa_cons (pe_op op_cat (pe_ix ix_list (pe_fld (pv 0) rfl) (pe_fld (pv 0) rfl) (fun _ _ => rfl)) (pe_lst (pa_cons (pe_fld (pv 0) rfl) pa_nil))) pa_nil)) pa_nil)))
      (pss_one (ps_ret (pe_lc (own := [("cell", 2)]) rfl scUnknown.nd (pi_list (pv 1)) (blkOk_by (by kernel_rfl)) (fun _ _ _ _ _ => pg_name (i := 2) scUnknown.nd rfl (Or.inl rfl))
        (fun _ _ _ _ _ => pts_one (pt_cmpR op_eq (pe_ix (ixK (K := K) rfl) (pe_fldK (K := K) rfl (pv 0) rfl) (pv 2) (fun _ _ => rfl)) pe_int (nomark _))) (fun _ _ _ _ _ => pv 2)))), ?_⟩
    refine ⟨_, rfl, A.p, C, dx, _, _, rfl, ho, T.cl, T.beside, rf_beside _ _, _, rfl, A.p, C, dx, _, _, rfl, ho, T.cl, T.place, rf_place _ _, A.b, _, _, _, rfl, rfl, SqL.of R.hb, refs_at han, _, rfl, A.p, C, dx, _, _, rfl, ho, T.cl, T.home, rf_home _ _, (by show 1 ≤ sizeLine; decide), fun l1 hl1 => ?_⟩
    have s1 := same_upd (o := .lst [vI r.home]) hl1
    have l4 := nbs_len r.map.w r.map.h r.place
    refine ⟨an, l1, _, _, rfl, rfl, s1 _ _ hnb, upd_same, ?_, fun l2 hl2 => ?_⟩
    · rw [List.length_map]
      show _ + 1 ≤ sizeLine
      rw [sizeLine_eq]
      omega
    have e2 : (nL (nbs r.map.w r.map.h r.place) ++ [vI r.home] : List V) = ((iN (nbs r.map.w r.map.h r.place ++ [r.home])).map V.int) := by
      refine Eq.trans ?_ (nL_iN _)
      rw [nL, nL, List.map_append]
      rfl
    rw [e2]
    have s2 := s1.trans (same_upd (o := .lst ((iN (nbs r.map.w r.map.h r.place ++ [r.home])).map V.int)) hl2)
    have li : (iN (nbs r.map.w r.map.h r.place ++ [r.home])).length ≤ 5 := by
      rw [iN, List.length_map, List.length_append]
      show _ + 1 ≤ 5
      omega
    refine ⟨l2, _, rfl, SqL.of upd_same, by omega, fun l3 ks hl3 knd kmem klen => ?_⟩
    have s3 := s2.trans (same_upd (o := setO w l3 ks) hl3)
    refine ⟨l3, ks, rfl, upd_same, by omega, fun ns l4' np ns_le hl4 => ?_⟩
    have s4 := s3.trans (same_upd (o := .lst (ns.map V.int)) hl4)
    have hpos : ∀ z ∈ ns, ∃ c : Nat, z = (c : Int) ∧ (c ∈ nbs r.map.w r.map.h r.place ∨ c = r.home) := fun z hz => by
      have h1 := (kmem z).mp (np.mem_iff.mp hz)
      obtain ⟨c, hc, rfl⟩ := List.mem_map.mp h1
      rw [List.mem_append, List.mem_singleton] at hc
      exact ⟨c, rfl, hc⟩
    have els : ns.map V.int = nL (ns.map Int.toNat) := by
      rw [nL, List.map_map]
      refine List.map_congr_left fun z hz => ?_
      obtain ⟨c, rfl, _⟩ := hpos z hz
      rfl
    have lmem : ∀ c, c ∈ ns.map Int.toNat ↔ c ∈ nbs r.map.w r.map.h r.place ∨ c = r.home := fun c => by
      constructor
      · intro h
        obtain ⟨z, hz, rfl⟩ := List.mem_map.mp h
        obtain ⟨d, rfl, hd⟩ := hpos z hz
        exact hd
      · intro h
        refine List.mem_map.mpr ⟨(c : Int), np.mem_iff.mpr ((kmem _).mpr (List.mem_map.mpr ⟨c, ?_, rfl⟩)), by simp⟩
        rw [List.mem_append, List.mem_singleton]
        exact h
    have lpw : (ns.map Int.toNat).Pairwise (· < ·) := by
      rw [List.pairwise_map]
      refine (pw_lt ns_le (np.nodup_iff.mpr knd)).imp_of_mem fun {a b} ha hb hab => ?_
      obtain ⟨c, rfl, _⟩ := hpos a ha
      obtain ⟨d, rfl, _⟩ := hpos b hb
      simp only [Int.toNat_natCast]
      omega
    have eu := unseen_eq W lpw lmem
    have llt : ∀ c ∈ ns.map Int.toNat, c < r.n := fun c hc => by
      rcases (lmem c).mp hc with h | h
      · exact (beside_iff.mp ((mem_nbs W.w1 W.pl).mp h)).2.1
      · rw [h]; exact W.hm
    have llen : (ns.map Int.toNat).length ≤ 5 := by
      rw [List.length_map, np.length_eq]
      omega
    rw [els] at s4 ⊢
    generalize ns.map Int.toNat = us at lmem lpw eu llt llen s4
    refine ⟨_, rfl, l4', rfl, ⟨_, SqL.of upd_same⟩, fun D hD => ?_⟩
    have hl4u : ∀ {H' : Hp}, Same (upd (upd (upd (upd H l1 (.lst [vI r.home])) l2 (.lst ((iN (nbs r.map.w r.map.h r.place ++ [r.home])).map V.int))) l3 (setO w l3 ks)) l4' (.lst (nL us))) H' → H' l4' = some (.lst (nL us)) := fun s' => s' _ _ upd_same
    refine lc_list (K := K) (a := l4') (xs := nL us) (fun i H' => H' D = some (.lst (nL ((us.take i).filter fun c => r.map.of c == 0))) ∧ Same (upd (upd (upd (upd H l1 (.lst [vI r.home])) l2 (.lst ((iN (nbs r.map.w r.map.h r.place ++ [r.home])).map V.int))) l3 (setO w l3 ks)) l4' (.lst (nL us))) H') ⟨upd_same, same_upd hD⟩ (fun i H' _ h => SqL.of (hl4u h.2)) ?_ ?_
    · rintro i x H1 hx ⟨hd, sH⟩
      obtain ⟨c, hc, rfl⟩ := nL_get hx
      have hcn := llt c (List.mem_of_getElem? hc)
      have R1 := R.same (s4.trans sH)
      obtain ⟨dx1, ho1⟩ := R1.ob
      refine ⟨rfl, _, rfl, A.p, C, dx1, _, _, rfl, ho1, T.cl, T.costs, rf_costs _ _, _, rfl, A.c, _, _, _, rfl, rfl, SqL.of R1.hc, nums_at (by rw [costs_len]; exact hcn), rfl, _, rfl, ?_⟩
      rw [costs_get hcn]
      have ef : (us.take (i + 1)).filter (fun c => r.map.of c == 0) = ((us.take i).filter fun c => r.map.of c == 0) ++ (if (r.map.of c == 0) = true then [c] else []) := by
        rw [take_snoc hc, List.filter_append]
        congr 1
        rw [List.filter_cons, List.filter_nil]
      have len : (nL ((us.take i).filter fun c => r.map.of c == 0)).length < sizeLine := by
        rw [List.length_map]
        have h1 := List.length_filter_le (fun c => r.map.of c == 0) (us.take i)
        have h3 : (us.take i).length ≤ us.length := by rw [List.length_take]; omega
        rw [sizeLine_eq]
        omega
      refine ite2 (fun hcc => ?_) (fun hcc => ?_)
      · have he := d_eq hcc
        refine ⟨_, rfl, _, hd, len, ?_, fun b o e => by rw [upd_ne (ne_of_none e hD)]; exact sH _ _ e⟩
        rw [ef, if_pos (by rw [beq_iff_eq]; omega), upd_same]
        simp only [nL, List.map_append]
        rfl
      · have he := d_ne hcc
        refine ⟨?_, sH⟩
        rw [ef, if_neg (by rw [beq_iff_eq]; omega), List.append_nil]
        exact hd
    · rintro H1 ⟨hd, sH⟩
      rw [List.length_map, List.take_length, eu] at hd
      exact q H1 D (s4.trans sH) (s4.free hD) hd
end
end Rv
end
section
set_option Elab.async false
set_option linter.all false
set_option maxRecDepth 100000
set_option maxHeartbeats 4000000
namespace Rv
open PySem PySem.Spec PyProof.Rows L2 RvM
open Sr38 (Rover)
theorem notFoot_new {C : Addr} {H : Hp} {A : RA} {r : Rover} {g : List Nat} (R : RoverAt C H A r g) {p : Addr} (h : H p = none) : p ∉ foot A := fun hm => by
  simp only [foot, List.mem_cons, List.not_mem_nil, or_false] at hm
  obtain ⟨dx, ho⟩ := R.ob
  rcases hm with q | q | q | q | q
  · rw [q, ho] at h; cases h
  · rw [q, R.hc] at h; cases h
  · rw [q, R.hbe] at h; cases h
  · rw [q, R.hk] at h; cases h
  · rw [q, R.hs] at h; cases h
def Its (A : RA) (b : Addr) : Prop := b ∈ foot A ∨ b = A.b ∨ b = A.g ∨ b ∈ A.nb
theorem RoverAt.on {C : Addr} {H H' : Hp} {A : RA} {r : Rover} {g : List Nat} (R : RoverAt C H A r g) (k : ∀ b, Its A b → ∀ o, H b = some o → H' b = some o) : RoverAt C H' A r g :=
  ⟨let ⟨dx, h⟩ := R.ob; ⟨dx, k _ (.inl (by simp [foot])) _ h⟩, k _ (.inr (.inl rfl)) _ R.hb, ⟨R.nb.1, fun c a h => k _ (.inr (.inr (.inr (List.mem_of_getElem? h)))) _ (R.nb.2 c a h)⟩, k _ (.inr (.inr (.inl rfl))) _ R.hg, k _ (.inl (by simp [foot])) _ R.hc, k _ (.inl (by simp [foot])) _ R.hbe, k _ (.inl (by simp [foot])) _ R.hk, k _ (.inl (by simp [foot])) _ R.hs, R.nd, R.ap⟩
theorem its_new {C : Addr} {H : Hp} {A : RA} {r : Rover} {g : List Nat} (R : RoverAt C H A r g) {p : Addr} (h : H p = none) : ∀ b, Its A b → b ≠ p := fun b hb e => by
  subst e
  rcases hb with q | q | q | q
  · exact notFoot_new R h q
  · rw [q, R.hb] at h; cases h
  · rw [q, R.hg] at h; cases h
  · obtain ⟨i, hi, e⟩ := List.mem_iff_getElem.mp q
    have := R.nb.2 i _ (List.getElem?_eq_getElem hi)
    rw [e, h] at this
    cases this
/-- a cell's cost is written, the cell told as seen -/
theorem RoverAt.seesAt {C : Addr} {H : Hp} {A : RA} {r : Rover} {g : List Nat} {c x : Nat} (R : RoverAt C H A r g) (W : WF r g) (hc : c < r.n) :
    RoverAt C (upd (upd H A.c (.lst (nL ((costsL r).set c x)))) A.s (.lst (nL (r.saw ++ [c])))) A (r.sees c x) g ∧ Frame A H (upd (upd H A.c (.lst (nL ((costsL r).set c x)))) A.s (.lst (nL (r.saw ++ [c])))) := by
  have fr : Frame A H (upd (upd H A.c (.lst (nL ((costsL r).set c x)))) A.s (.lst (nL (r.saw ++ [c])))) := fun b o q hb => by rw [upd_ne (notFoot hb).2.2.2.2, upd_ne (notFoot hb).2.1]; exact q
  obtain ⟨dx, ho⟩ := R.ob
  obtain ⟨n1, n2, n3, n4, n5, n6⟩ := nd4 R.nd
  have hlt : c < r.map.cost.length := by rw [W.cl]; have := W.n256; omega
  refine ⟨R.put rfl rfl fr ⟨dx, by rw [upd_ne (lstNe ho R.hs), upd_ne (lstNe ho R.hc), ho]; rfl⟩ ?_ ?_ ?_ ?_, fr⟩
  · rw [upd_ne n3, upd_same]
    have e : (costsL r).set c x = costsL (r.sees c x) := set_map_range hc (by show (r.sees c x).map.of c = x; exact (of_set hlt).trans (if_pos rfl)) fun d _ hd => by show (r.sees c x).map.of d = r.map.of d; exact (of_set hlt).trans (if_neg hd)
    rw [e]
  · rw [upd_ne n5, upd_ne n1.symm]; exact R.hbe
  · rw [upd_ne n6, upd_ne n2.symm]; exact R.hk
  · rw [upd_same]; rfl
section
variable {P : Program} {w : World} {K : PySem.W.Frag} {mg : Str → Option Value} {base : Heap}
abbrev MSendSeen (P : Program) (w : World) (K : PySem.W.Frag) (mg : Str → Option Value) (base : Heap) (C : Addr) : Prop := MCal P w K mg base C "send_seen" 3 ["self"] (spSendSeen C)
def spLook (C : Addr) : Sp := fun vs H Q _ => ∃ (A : RA) (r : Rover) (g : List Nat) (ac : Addr) (us : List Nat), vs = [.ref A.p, .ref ac] ∧ RoverAt C H A r g ∧ WF r g ∧ H ac = some (.lst (nL us)) ∧ ac ∉ foot A ∧ us.Nodup ∧ (∀ c ∈ us, c < r.n ∧ r.map.of c = 0) ∧
  Done C H A g Q (Sr38Neutral.seesF (Sr38Neutral.ground g) r us).2 ((Sr38Neutral.seesF (Sr38Neutral.ground g) r us).1.flatMap Sr38Neutral.told)
theorem scLook : FnScope ["self", "cells", "done", "cell"] ["self", "cells"] (defScope sLook) := ⟨rfl, rfl, rfl, by decide +kernel, rfl, by decide +kernel, by decide +kernel⟩
theorem ok_look {f C : Addr} {fd : FuncData} (F : Fun K "look" "Rover.look" sLook f fd) (G : Gs mg) (T : RT K C) (MS : MSendSeen P w K mg base C) (nm : ∀ A r, (rf A r).lookup ("send_seen" : Str) = none) : FnOk P w K mg base CX0 4 f fd ["self", "cells"] (spLook C) := by
  refine F.ok scLook (fun vs H Q E h => ?_) (fun cdv A' outer s H vs Q E hr h => ?_)
  · obtain ⟨A, r, g, ac, us, rfl, _⟩ := h
    rfl
  · obtain ⟨A, r, g, ac, us, rfl, R, W, hac, nac, und, uz, q⟩ := h
    refine ⟨_, pss_cons (ps_set (i := 2) scLook.nd rfl (Or.inl rfl) (pe_lst pa_nil))
      (pss_cons (ps_for PassesOwn.never rfl (pi_list (pv 1)) (pg_name (i := 3) scLook.nd rfl (Or.inl rfl))
        (pss_cons (ps_asg (pe_ix ix_list (pe_fld (pv 0) rfl) (pv 3) (fun _ _ => rfl)) (pg_sub (pe_fld (pv 0) rfl) (pv 3) set_list))
        (pss_cons (ps_expr (pe_bm PySem.F.plainAttrs_list PySem.F.slot_list_append PySem.F.type_list_append mt_append (pe_fld (pv 0) rfl) (pa_cons (pv 3) pa_nil)))
        (pss_cons (ps_expr (pe_bm PySem.F.plainAttrs_list PySem.F.slot_list_extend PySem.F.type_list_extend mt_extend (pv 2) (pa_cons (pe_lst (pa_cons (pe_gi rfl G.SAW) (pa_cons (pv 3) (pa_cons (pe_ix ix_list (pe_fld (pv 0) rfl) (pv 3) (fun _ _ => rfl)) pa_nil)))) pa_nil)))
        (pss_one (ps_if (pt_cmpR op_eq (pe_callB call_len_seq (by rfl) G.len PySem.boot_len (pa_cons (pe_fld (pv 0) rfl) pa_nil)) (pe_op op_add (pe_fld (pv 0) rfl) pe_int) (nomark _))
          (pss_one (ps_expr (pe_bm PySem.F.plainAttrs_list PySem.F.slot_list_extend PySem.F.type_list_extend mt_extend (pv 2) (pa_cons (pe_mc0 MS T.cl hr (pv 0)) pa_nil)))) pss_nil))))))
      (pss_one (ps_ret (pv 2)))), ?_⟩
    refine ⟨Nat.zero_le _, fun D hD => ?_⟩
    have sD := same_upd (o := .lst []) hD
    have hDf : D ∉ foot A := notFoot_new R hD
    have hDa : D ≠ ac := fun e => by rw [e, hac] at hD; cases hD
    have ulen : us.length ≤ 256 := Nat.le_trans (nodup_len r.n us und fun c hc => (uz c hc).1) W.n256
    refine ⟨_, rfl, ac, rfl, ⟨_, SqL.of (sD _ _ hac)⟩, for_list (K := K) (a := ac) (xs := nL us) (fun i σ H' => ∃ v : Option V, σ = [some (.ref A.p), some (.ref ac), some (.ref D), v] ∧ Frame A H H' ∧ RoverAt C H' A (Sr38Neutral.seesF (Sr38Neutral.ground g) r (us.take i)).2 g ∧
      H' D = some (.lst (iL ((Sr38Neutral.seesF (Sr38Neutral.ground g) r (us.take i)).1.flatMap Sr38Neutral.told))) ∧ ((Sr38Neutral.seesF (Sr38Neutral.ground g) r (us.take i)).1.flatMap Sr38Neutral.told).length ≤ 12 * i)
      ⟨none, rfl, Frame.of sD, R.same sD, upd_same, Nat.le_refl _⟩ (fun i σ H' _ ⟨_, _, fr, _⟩ => SqL.of (fr _ _ hac nac)) ?_ ?_⟩
    · rintro i z σ H1 hz ⟨v, rfl, fr1, R1, hD1, len1⟩
      obtain ⟨c, hc, rfl⟩ := nL_get hz
      have hi : i < us.length := (List.getElem?_eq_some_iff.mp hc).1
      have hcm := List.mem_of_getElem? hc
      have hcn := (uz c hcm).1
      have Wi : WF (Sr38Neutral.seesF (Sr38Neutral.ground g) r (us.take i)).2 g := seesF_wf W (und.sublist (List.take_sublist _ _)) fun d hd => uz d (List.mem_of_mem_take hd)
      have Wn : WF (Sr38Neutral.seesF (Sr38Neutral.ground g) r (us.take (i + 1))).2 g := seesF_wf W (und.sublist (List.take_sublist _ _)) fun d hd => uz d (List.mem_of_mem_take hd)
      have esn := seesF_snoc (g := Sr38Neutral.ground g) (l := us.take i) (r := r) (c := c)
      rw [← take_snoc hc] at esn
      have nsame : ∀ (l : List Nat) (r0 : Rover), (Sr38Neutral.seesF (Sr38Neutral.ground g) r0 l).2.n = r0.n := by
        intro l
        induction l with
        | nil => intro r0; rfl
        | cons a l ih => intro r0; unfold Sr38Neutral.seesF; exact ih _
      rw [esn] at Wn
      rw [esn]
      have hni := nsame (us.take i) r
      generalize Sr38Neutral.seesF (Sr38Neutral.ground g) r (us.take i) = S at R1 hD1 len1 Wi Wn hni
      obtain ⟨ev, ri⟩ := S
      dsimp only at R1 hD1 len1 Wi Wn hni ⊢
      obtain ⟨dx1, ho1⟩ := R1.ob
      have hcn1 : c < ri.n := by rw [hni]; exact hcn
      have hgl : (g.take ri.n).length = ri.n := by rw [List.length_take, W.gl]; have := Wi.n256; omega
      have egr : (g.take ri.n).getD c 0 = Sr38Neutral.ground g c := by
        rw [ground_at (by rw [W.gl]; have := Wi.n256; omega), List.getD_eq_getElem?_getD, List.getD_eq_getElem?_getD, List.getElem?_take, if_pos hcn1]
      refine ⟨_, rfl, A.p, C, dx1, _, _, rfl, ho1, T.cl, T.ground, rf_ground _ _, _, rfl, A.g, _, _, _, rfl, rfl, SqL.of R1.hg, nums_at (by rw [hgl]; exact hcn1), _, rfl, A.p, C, dx1, _, _, rfl, ho1, T.cl, T.costs, rf_costs _ _, _, rfl, A.c, _, _, c, rfl, rfl, R1.hc, ixN_nat (by rw [List.length_map, costs_len]; exact hcn1), ?_⟩
      rw [egr, nL_set]
      obtain ⟨n1, n2, n3, n4, n5, n6⟩ := nd4 R1.nd
      have hoA : upd H1 A.c (.lst (nL ((costsL ri).set c (Sr38Neutral.ground g c)))) A.p = some (.ins C dx1 (rf A ri)) := by rw [upd_ne (lstNe ho1 R1.hc)]; exact ho1
      have hsA : upd H1 A.c (.lst (nL ((costsL ri).set c (Sr38Neutral.ground g c)))) A.s = some (.lst (nL ri.saw)) := by rw [upd_ne n3.symm]; exact R1.hs
      have hsl := saw_le Wi
      refine ⟨_, rfl, A.p, C, dx1, _, _, rfl, hoA, T.cl, T.seen, rf_seen _ _, .inl ⟨rfl, _, SqL.of hsA⟩, _, rfl, A.s, _, _, rfl, rfl, hsA, (by rw [List.length_map, sizeLine_eq]; omega), ?_⟩
      have esaw : (nL ri.saw ++ [vI c] : List V) = nL (ri.saw ++ [c]) := by rw [nL, nL, List.map_append]; rfl
      rw [esaw]
      obtain ⟨R2, fr2⟩ := R1.seesAt (x := Sr38Neutral.ground g c) Wi hcn1
      generalize upd (upd H1 A.c (.lst (nL ((costsL ri).set c (Sr38Neutral.ground g c))))) A.s (.lst (nL (ri.saw ++ [c]))) = H2 at R2 fr2
      obtain ⟨dx2, ho2⟩ := R2.ob
      have hD2 := fr2 _ _ hD1 hDf
      have ecost : (costsL (ri.sees c (Sr38Neutral.ground g c))).getD c 0 = Sr38Neutral.ground g c := by
        rw [costs_get (r := ri.sees c (Sr38Neutral.ground g c)) (show c < (ri.sees c (Sr38Neutral.ground g c)).n from hcn1)]
        exact (of_set (by rw [Wi.cl]; have := Wi.n256; omega)).trans (if_pos rfl)
      refine ⟨_, rfl, .inl ⟨rfl, _, SqL.of hD2⟩, _, rfl, _, rfl, A.p, C, dx2, _, _, rfl, ho2, T.cl, T.costs, rf_costs _ _, _, rfl, A.c, _, _, _, rfl, rfl, SqL.of R2.hc, nums_at (by rw [costs_len]; exact hcn1), (by show 3 ≤ sizeLine; decide), fun l3 hl3 => ?_⟩
      have s3 := same_upd (o := .lst [V.int 0, vI c, vI ((costsL (ri.sees c (Sr38Neutral.ground g c))).getD c 0)]) hl3
      refine ⟨D, l3, _, _, rfl, rfl, s3 _ _ hD2, upd_same, ?_, ?_⟩
      · rw [List.length_map]
        show _ + 3 ≤ sizeLine
        rw [sizeLine_eq]
        omega
      rw [ecost] at s3 ⊢
      have R3 := R2.same s3
      have eo3 : (iL (ev.flatMap Sr38Neutral.told) ++ [V.int 0, vI c, vI (Sr38Neutral.ground g c)] : List V) = iL (ev.flatMap Sr38Neutral.told ++ Sr38Neutral.told (.see c (Sr38Neutral.ground g c))) := by rw [iL, iL, List.map_append]; rfl
      rw [eo3]
      have hD3 := s3 _ _ hD2
      generalize upd H2 l3 (.lst [V.int 0, vI c, vI (Sr38Neutral.ground g c)]) = H3 at s3 R3 hD3
      have fr3 : Frame A H H3 := (fr1.trans fr2).trans (Frame.of s3)
      -- done has grown
      have R4 : RoverAt C (upd H3 D (.lst (iL (ev.flatMap Sr38Neutral.told ++ Sr38Neutral.told (.see c (Sr38Neutral.ground g c)))))) A (ri.sees c (Sr38Neutral.ground g c)) g := by
        exact R3.on fun b hb o e => by rw [upd_ne (its_new R hD b hb)]; exact e
      have fr4 : Frame A H (upd H3 D (.lst (iL (ev.flatMap Sr38Neutral.told ++ Sr38Neutral.told (.see c (Sr38Neutral.ground g c)))))) := fun b o e hb => by rw [upd_ne (ne_of_none e hD)]; exact fr3 _ _ e hb
      have tl3 : (Sr38Neutral.told (.see c (Sr38Neutral.ground g c))).length = 3 := rfl
      obtain ⟨dx4, ho4⟩ := R4.ob
      refine ⟨_, rfl, A.p, C, dx4, _, _, rfl, ho4, T.cl, T.seen, rf_seen _ _, A.s, _, rfl, .inl (SqL.of R4.hs), _, rfl, A.p, C, dx4, _, _, rfl, ho4, T.cl, T.had, rf_had _ _, _, _, rfl, rfl, rfl, _, rfl, ite2 (fun hcc => ?_) (fun hcc => ?_)⟩
      · have hh : ri.saw.length = ri.had := by
          have h0 := d_eq hcc
          have h1 : ((nL (ri.sees c (Sr38Neutral.ground g c)).saw).length : Int) = (ri.had : Int) + 1 := h0
          rw [List.length_map] at h1
          have h2 : (ri.sees c (Sr38Neutral.ground g c)).saw.length = ri.saw.length + 1 := by show (ri.saw ++ [c]).length = _; rw [List.length_append]; rfl
          omega
        refine ⟨_, rfl, .inl ⟨rfl, _, SqL.of upd_same⟩, _, rfl, A.p, dx4, _, rfl, ho4, nm _ _, A, _, g, rfl, R4, Wn, fun H5 p5 s5 hp5 e5 => ?_⟩
        have tl9 := tells_len Wn
        refine ⟨D, p5, _, _, rfl, rfl, s5 _ _ upd_same, e5, ?_, ?_⟩
        · rw [List.length_map, List.length_map, List.length_append, tl3, sizeLine_eq]
          omega
        have ee : ((ev ++ Sr38.Ev.see c (Sr38Neutral.ground g c) :: (if ri.saw.length = ri.had then (ri.sees c (Sr38Neutral.ground g c)).tells else [])).flatMap Sr38Neutral.told) = (ev.flatMap Sr38Neutral.told ++ Sr38Neutral.told (.see c (Sr38Neutral.ground g c))) ++ (ri.sees c (Sr38Neutral.ground g c)).tells.flatMap Sr38Neutral.told := by
          rw [if_pos hh, List.flatMap_append, List.flatMap_cons, List.append_assoc]
        refine ⟨some (vI c), rfl, fun b o e hb => by rw [upd_ne (ne_of_none e hD)]; exact s5 _ _ (fr4 _ _ e hb), (R4.same s5).on fun b hb o e => by rw [upd_ne (its_new R hD b hb)]; exact e, ?_, ?_⟩
        · rw [upd_same, ee, iL, iL, iL, ← List.map_append]
        · rw [ee, List.length_append, List.length_append, tl3]
          omega
      · have hh : ¬ ri.saw.length = ri.had := fun z => hcc (decide_eq_true (by
          show V.int ((nL (ri.sees c (Sr38Neutral.ground g c)).saw).length : Int) = V.int ((ri.had : Int) + 1)
          rw [List.length_map]
          have h2 : (ri.sees c (Sr38Neutral.ground g c)).saw.length = ri.saw.length + 1 := by show (ri.saw ++ [c]).length = _; rw [List.length_append]; rfl
          rw [h2, z]
          rfl))
        have ee : ((ev ++ Sr38.Ev.see c (Sr38Neutral.ground g c) :: (if ri.saw.length = ri.had then (ri.sees c (Sr38Neutral.ground g c)).tells else [])).flatMap Sr38Neutral.told) = (ev.flatMap Sr38Neutral.told ++ Sr38Neutral.told (.see c (Sr38Neutral.ground g c))) := by
          rw [if_neg hh, List.flatMap_append, List.flatMap_cons, List.flatMap_nil, List.append_nil]
        refine ⟨some (vI c), rfl, fr4, R4, ?_, ?_⟩
        · rw [upd_same, ee]
        · rw [ee, List.length_append, tl3]
          omega
    · rintro σ H1 ⟨v, rfl, fr1, R1, hD1, len1⟩
      rw [List.length_map, List.take_length] at R1 hD1
      exact ⟨_, rfl, q H1 D R1 fr1 hD hD1⟩
end
end Rv
end
section
set_option Elab.async false
set_option linter.all false
set_option maxRecDepth 100000
set_option maxHeartbeats 4000000
namespace Rv
open PySem PySem.Spec PyProof.Rows L2 RvM
open Sr38 (Rover)
def oV : Option Nat → V
  | none => .non
  | some c => vI c
section
variable {P : Program} {w : World} {K : PySem.W.Frag} {mg : Str → Option Value} {base : Heap}
def spChoose (C : Addr) : Sp := fun vs H Q _ => ∃ (A : RA) (r : Rover) (g : List Nat) (aW aH : Addr) (hs : List Nat), vs = [.ref A.p, .ref aW, .ref aH] ∧ RoverAt C H A r g ∧ WF r g ∧ H aW = some (.lst (nL (wsOf r.free))) ∧ H aH = some (.lst (nL hs)) ∧ hs.length = r.n ∧
  ∀ (H' : Hp) (ps : List Nat) (best : Option Nat), Same H H' → Sums r.free r.place (fun c => ps.getD c 0) → BestOf r (fun c => ps.getD c 0) (fun c => hs.getD c 0) r.n best → Q (oV best) H'
theorem scChoose : FnScope ["self", "weights", "home_sums", "place_sums", "best", "best_there", "cell", "there", "back"] ["self", "weights", "home_sums"] (defScope sChoose) := ⟨rfl, rfl, rfl, by decide +kernel, rfl, by decide +kernel, by decide +kernel⟩
theorem ok_choose {f C : Addr} {fd : FuncData} (F : Fun K "choose_goal" "Rover.choose_goal" sChoose f fd) (G : Gs mg) (T : RT K C) (CL : CLightest P w K mg base) (CT : CTaken P w K mg base) : FnOk P w K mg base CX0 2 f fd ["self", "weights", "home_sums"] (spChoose C) := by
  refine F.ok scChoose (fun vs H Q E h => ?_) (fun cdv A' outer s H vs Q E hr h => ?_)
  · obtain ⟨A, r, g, aW, aH, hs, rfl, _⟩ := h
    rfl
  · obtain ⟨A, r, g, aW, aH, hs, rfl, R, W, hW, hH, hsl, q⟩ := h
    obtain ⟨dx, ho⟩ := R.ob
    have n256 := W.n256
    refine ⟨_, pss_cons (ps_set (i := 3) scChoose.nd rfl (Or.inl rfl) (pe_cal CL hr rfl (pa_cons (pv 1) (pa_cons (pe_fld (pv 0) rfl) (pa_cons (pe_fld (pv 0) rfl) pa_nil)))))
      (pss_cons (ps_set (i := 4) scChoose.nd rfl (Or.inl rfl) pe_non)
      (pss_cons (ps_set (i := 5) scChoose.nd rfl (Or.inl rfl) pe_int)
      (pss_cons (ps_for PassesOwn.never rfl (pi_range1 rfl G.range (pa_cons (pe_fld (pv 0) rfl) pa_nil)) (pg_name (i := 6) scChoose.nd rfl (Or.inl rfl))
        (pss_cons (ps_if (PW.pt (pw_or (pt_val (pe_ix ix_list (pe_fld (pv 0) rfl) (pv 6) (fun _ _ => rfl))) (pw_or (pt_cmpR op_eq (pe_ix ix_list (pv 3) (pv 6) (fun _ _ => rfl)) pe_int (nomark _)) (pw_or1 (pt_cmpR op_eq (pe_ix ix_list (pv 2) (pv 6) (fun _ _ => rfl)) pe_int (nomark _)))))) (pss_one ps_continue) pss_nil)
        (pss_cons (ps_set (i := 7) scChoose.nd rfl (Or.inl rfl) (pe_cal CT hr rfl (pa_cons (pe_ix ix_list (pv 3) (pv 6) (fun _ _ => rfl)) (pa_cons (pe_ix ix_list (pv 1) (pe_fld (pv 0) rfl) (fun _ _ => rfl)) pa_nil))))
        (pss_cons (ps_set (i := 8) scChoose.nd rfl (Or.inl rfl) (pe_cal CT hr rfl (pa_cons (pe_ix ix_list (pv 2) (pv 6) (fun _ _ => rfl)) (pa_cons (pe_ix ix_list (pv 1) (pv 6) (fun _ _ => rfl)) pa_nil))))
        (pss_one (ps_if (PW.pt (pw_and (pt_cmpR op_le (pe_op op_add (pv 7) (pv 8)) (pe_fld (pv 0) rfl) (nomark _)) (pw_and1 (PW.pt (pw_or (pt_cmpR op_isN (pv 4) pe_non (nomark _)) (pw_or1 (pt_cmpR op_lt (pv 7) (pv 5) (nomark _))))))))
          (pss_cons (ps_set (i := 4) scChoose.nd rfl (Or.inl rfl) (pv 6)) (pss_one (ps_set (i := 5) scChoose.nd rfl (Or.inl rfl) (pv 7)))) pss_nil))))))
      (pss_one (ps_ret (pv 4)))))), ?_⟩
    refine ⟨_, rfl, _, rfl, A.p, C, dx, _, _, rfl, ho, T.cl, T.beside, rf_beside _ _, _, rfl, A.p, C, dx, _, _, rfl, ho, T.cl, T.place, rf_place _ _, r.free, aW, A.b, A.nb, r.place, rfl, R.field W rfl rfl hW, W.pl, fun H1 aP ps s1 hP e1 psl hSum => ?_⟩
    have R1 := R.same s1
    obtain ⟨dx1, ho1⟩ := R1.ob
    have psl' : ps.length = r.n := psl
    refine ⟨_, rfl, A.p, C, dx1, _, _, rfl, ho1, T.cl, T.size, rf_size _ _, _, rfl, by omega, by omega, ?_⟩
    rw [Int.toNat_natCast]
    refine for_range (fun i σ H' => H' = H1 ∧ ∃ (best : Option Nat) (bt : Int) (v6 v7 v8 : Option V), σ = [some (.ref A.p), some (.ref aW), some (.ref aH), some (.ref aP), some (oV best), some (.int bt), v6, v7, v8] ∧ BestOf r (fun c => ps.getD c 0) (fun c => hs.getD c 0) i best ∧ ∀ b, best = some b → bt = thereI r (fun c => ps.getD c 0) b)
      ⟨rfl, none, 0, none, none, none, rfl, BestOf.start, fun b h => by cases h⟩ ?_ ?_
    · rintro i σ H2 hi ⟨rfl, best, bt, v6, v7, v8, rfl, hB, hbt⟩
      rw [Int.zero_add]
      have ewp : (wsOf r.free).getD r.place 0 = weigh r.free r.place := wsOf_get r.free W.pl
      have ewi : (wsOf r.free).getD i 0 = weigh r.free i := wsOf_get r.free hi
      refine ⟨_, rfl, A.p, C, dx1, _, _, rfl, ho1, T.cl, T.been, rf_been _ _, _, rfl, A.be, _, _, _, rfl, rfl, SqL.of R1.hbe, flags_get hi, _, rfl, ite2 (fun h1 => iteT ?_) (fun h1 => ?_)⟩
      · exact ⟨rfl, best, bt, _, v7, v8, rfl, hB.skip fun cd => cd.nb (by simpa using h1), hbt⟩
      refine ⟨_, rfl, _, rfl, aP, _, _, _, rfl, rfl, SqL.of e1, nums_at (by omega), rfl, _, rfl, ite2 (fun h2 => iteT ?_) (fun h2 => ?_)⟩
      · exact ⟨rfl, best, bt, _, v7, v8, rfl, hB.skip fun cd => cd.p0 (by have := d_eq h2; show ps.getD i 0 = 0; omega), hbt⟩
      refine ⟨_, rfl, _, rfl, aH, _, _, _, rfl, rfl, SqL.of (s1 _ _ hH), nums_at (by omega), rfl, _, rfl, ite2 (fun h3 => ?_) (fun h3 => ?_)⟩
      · exact ⟨rfl, best, bt, _, v7, v8, rfl, hB.skip fun cd => cd.h0 (by have := d_eq h3; show hs.getD i 0 = 0; omega), hbt⟩
      refine ⟨_, rfl, _, rfl, aP, _, _, _, rfl, rfl, SqL.of e1, nums_at (by omega), _, rfl, _, rfl, A.p, C, dx1, _, _, rfl, ho1, T.cl, T.place, rf_place _ _, aW, _, _, _, rfl, rfl, SqL.of (s1 _ _ hW), nums_at (by rw [wsOf_len]; exact W.pl), _, _, rfl, ?_⟩
      refine ⟨_, rfl, _, rfl, aH, _, _, _, rfl, rfl, SqL.of (s1 _ _ hH), nums_at (by omega), _, rfl, _, rfl, aW, _, _, _, rfl, rfl, SqL.of (s1 _ _ hW), nums_at (by rw [wsOf_len]; exact hi), _, _, rfl, ?_⟩
      rw [ewp, ewi]
      refine ⟨_, rfl, _, rfl, _, _, rfl, rfl, _, rfl, A.p, C, dx1, _, _, rfl, ho1, T.cl, T.left, rf_left _ _, _, _, rfl, rfl, _, rfl, ite2 (fun h4 => ?_) (fun h4 => ?_)⟩
      · have hcand : Cand r (fun c => ps.getD c 0) (fun c => hs.getD c 0) i := ⟨by simpa using h1, by have := d_ne h2; show ps.getD i 0 ≠ 0; omega, by have := d_ne h3; show hs.getD i 0 ≠ 0; omega, of_decide_eq_true h4⟩
        cases best with
        | none =>
          refine ⟨_, rfl, rfl, _, rfl, ?_⟩
          show if decide (V.non = V.non) = true then _ else _
          rw [if_pos (decide_eq_true rfl)]
          refine iteT ?_
          refine ⟨_, rfl, _, rfl, rfl, some i, thereI r (fun c => ps.getD c 0) i, _, _, _, rfl, hB.take hcand (fun b h => by cases h), fun b h => by cases h; rfl⟩
        | some b0 =>
          refine ⟨_, rfl, rfl, _, rfl, ?_⟩
          show if decide (vI b0 = V.non) = true then _ else _
          rw [if_neg (by rw [decide_eq_false (fun z => by cases z)]; exact Bool.false_ne_true)]
          refine ⟨_, rfl, _, rfl, _, _, rfl, rfl, _, rfl, ite2 (fun h5 => ?_) (fun h5 => ?_)⟩
          · have h5' := of_decide_eq_true h5
            refine ⟨_, rfl, _, rfl, rfl, some i, thereI r (fun c => ps.getD c 0) i, _, _, _, rfl, hB.take hcand (fun b h => ?_), fun b h => by cases h; rfl⟩
            cases h
            rw [← hbt b0 rfl]
            exact h5'
          · have h5' : ¬ thereI r (fun c => ps.getD c 0) i < bt := fun z => h5 (decide_eq_true z)
            exact ⟨rfl, some b0, bt, _, _, _, rfl, hB.keep (by rw [← hbt b0 rfl]; exact h5'), hbt⟩
      · refine ⟨rfl, best, bt, _, _, _, rfl, hB.skip fun cd => h4 (decide_eq_true cd.le), hbt⟩
    · rintro σ H2 ⟨rfl, best, bt, v6, v7, v8, rfl, hB, hbt⟩
      exact ⟨_, rfl, q _ ps best s1 hSum hB⟩
end
end Rv
end
section
set_option Elab.async false
set_option linter.all false
set_option maxRecDepth 100000
set_option maxHeartbeats 4000000
namespace Rv
open PySem PySem.Spec PyProof.Rows L2 RvM
open Sr38 (Rover)
theorem tells_len2 (r : Rover) : (r.tells.flatMap Sr38Neutral.told).length ≤ 9 := by
  unfold Rover.tells
  cases r.saw[r.had]? with
  | none => simp
  | some c => simp [Sr38Neutral.told, Sr38Neutral.ints, Sr38.bytesOf, Sr38.two]
theorem sees_len (g : Nat → Nat) : ∀ (l : List Nat) (r : Rover), ((Sr38Neutral.seesF g r l).1.flatMap Sr38Neutral.told).length ≤ 12 * l.length
  | [], r => by simp [Sr38Neutral.seesF]
  | c :: k, r => by
    have ih := sees_len g k (r.sees c (g c))
    have t9 := tells_len2 (r.sees c (g c))
    unfold Sr38Neutral.seesF
    dsimp only
    rw [List.flatMap_cons, List.flatMap_append, List.length_append, List.length_append, List.length_cons]
    have h3 : (Sr38Neutral.told (.see c (g c))).length = 3 := rfl
    have hif : ((if r.saw.length = r.had then (r.sees c (g c)).tells else []).flatMap Sr38Neutral.told).length ≤ 9 := by
      split
      · exact t9
      · simp
    omega
theorem cat_done {C : Addr} {H H1 : Hp} {A : RA} {r r1 : Rover} {g : List Nat} {l : Addr} {k : Int} {out : List Int} {Q : VK} (R : RoverAt C H A r g) (s1 : Same H H1) (hl : H1 l = none) (hlen : out.length ≤ 100000) (q : Done C H A g Q r1 (k :: out)) :
    Done C (upd H1 l (.lst [V.int k])) A g (fun x H2 => rCat (.ref l) x H2 Q) r1 out := by
  intro H2 p R2 fr2 hp e2
  have hlf : l ∉ foot A := notFoot_new (R.same s1) hl
  refine ⟨l, p, _, _, rfl, rfl, fr2 _ _ upd_same hlf, e2, ?_, fun z hz => ?_⟩
  · rw [List.length_map]
    show 1 + out.length ≤ sizeLine
    rw [sizeLine_eq]
    omega
  · have sz := same_upd (o := .lst ([V.int k] ++ iL out)) hz
    have frA : Frame A H H2 := ((Frame.of s1).trans (Frame.of (same_upd hl))).trans fr2
    exact q _ z (R2.same sz) (frA.trans (Frame.of sz)) (frA.free R ⟨_, R2⟩ hz) upd_same
section
variable {P : Program} {w : World} {K : PySem.W.Frag} {mg : Str → Option Value} {base : Heap}
def spStep (C : Addr) : Sp := fun vs H Q _ => ∃ (A : RA) (r : Rover) (g : List Nat) (evs : List Sr38.Ev) (r' : Rover) (ans : Sr38.Ans), vs = [.ref A.p] ∧ RoverAt C H A r g ∧ WF r g ∧ Sr38Neutral.stepR (Sr38Neutral.ground g) r = some (evs, r', ans) ∧ (WF r' g → Done C H A g Q r' (outOf ans evs))
theorem scStep : FnScope ["self", "unknown", "weights", "home_sums", "goal", "goal_sums"] ["self"] (defScope sStep) := ⟨rfl, rfl, rfl, by decide +kernel, rfl, by decide +kernel, by decide +kernel⟩
theorem ok_step {f C : Addr} {fd : FuncData} (F : Fun K "step" "Rover.step" sStep f fd) (G : Gs mg) (T : RT K C) (MU : MCal P w K mg base C "unknown_in_sight" 1 ["self"] (spUnknown C)) (ML : MCal P w K mg base C "look" 4 ["self", "cells"] (spLook C)) (MW : MWeigh P w K mg base C) (CL : CLightest P w K mg base)
    (MG : MCal P w K mg base C "choose_goal" 2 ["self", "weights", "home_sums"] (spChoose C)) (Mgo : MCal P w K mg base C "go" 1 ["self", "cell"] (spGo C)) (CS : Cal P w K mg base "second_cell" 1 ["weights", "beside", "sums", "place"] (spSecond K))
    (nm : ∀ m, m ∈ (["unknown_in_sight", "look", "weigh", "choose_goal", "go"] : List Str) → ∀ A r, (rf A r).lookup m = none) : FnOk P w K mg base CX0 5 f fd ["self"] (spStep C) := by
  refine F.ok scStep (fun vs H Q E h => ?_) (fun cdv A' outer s H vs Q E hr h => ?_)
  · obtain ⟨A, r, g, evs, r', ans, rfl, _⟩ := h
    rfl
  · obtain ⟨A, r, g, evs, r', ans, rfl, R, W, hst, q⟩ := h
    obtain ⟨dx, ho⟩ := R.ob
    have hr1 : Room 1 _ := hr.mono (by decide)
    have hr2 : Room 2 _ := hr.mono (by decide)
    refine ⟨_, pss_cons (ps_set (i := 1) scStep.nd rfl (Or.inl rfl) (pe_mc0 MU T.cl hr1 (pv 0)))
      (pss_cons (ps_if (pt_truth (pv 1) (fun _ => rfl)) (pss_one (ps_ret (pe_op op_cat (pe_lst (pa_cons (pe_gi rfl G.LOOKED) pa_nil)) (pe_mc ML T.cl hr (pv 0) (pa_cons (pv 1) pa_nil))))) pss_nil)
      (pss_cons (ps_set (i := 2) scStep.nd rfl (Or.inl rfl) (pe_mc0 MW T.cl hr2 (pv 0)))
      (pss_cons (ps_set (i := 3) scStep.nd rfl (Or.inl rfl) (pe_cal CL hr1 rfl (pa_cons (pv 2) (pa_cons (pe_fld (pv 0) rfl) (pa_cons (pe_fld (pv 0) rfl) pa_nil)))))
      (pss_cons (ps_set (i := 4) scStep.nd rfl (Or.inl rfl) (pe_mc MG T.cl hr2 (pv 0) (pa_cons (pv 2) (pa_cons (pv 3) pa_nil))))
      (pss_cons (ps_if (pt_cmpR op_notN (pv 4) pe_non (nomark _)) (pss_cons (ps_set (i := 5) scStep.nd rfl (Or.inl rfl) (pe_cal CL hr1 rfl (pa_cons (pv 2) (pa_cons (pe_fld (pv 0) rfl) (pa_cons (pv 4) pa_nil)))))
          (pss_one (ps_ret (pe_op op_cat (pe_lst (pa_cons (pe_gi rfl G.TO_GOAL) pa_nil)) (pe_mc Mgo T.cl hr1 (pv 0) (pa_cons (pe_cal CS hr1 rfl (pa_cons (pv 2) (pa_cons (pe_fld (pv 0) rfl) (pa_cons (pv 5) (pa_cons (pe_fld (pv 0) rfl) pa_nil))))) pa_nil)))))) pss_nil)
      (pss_cons (ps_if (pt_cmpR op_ne (pe_fld (pv 0) rfl) (pe_fld (pv 0) rfl) (nomark _))
          (pss_one (ps_ret (pe_op op_cat (pe_lst (pa_cons (pe_gi rfl G.TO_HOME) pa_nil)) (pe_mc Mgo T.cl hr1 (pv 0) (pa_cons (pe_cal CS hr1 rfl (pa_cons (pv 2) (pa_cons (pe_fld (pv 0) rfl) (pa_cons (pv 3) (pa_cons (pe_fld (pv 0) rfl) pa_nil))))) pa_nil))))) pss_nil)
      (pss_cons (ps_if (pt_cmpR op_lt (pe_fld (pv 0) rfl) (pe_fld (pv 0) rfl) (nomark _)) (pss_cons (ps_fld (pv 0) (pe_fld (pv 0) rfl) rfl) (pss_one (ps_ret (pe_lst (pa_cons (pe_gi rfl G.FILLED) (pa_cons (pe_gi rfl G.CHARGED) pa_nil)))))) pss_nil)
      (pss_one (ps_ret (pe_lst (pa_cons (pe_gi rfl G.NOTHING) pa_nil))))))))))), ?_⟩
    refine ⟨_, rfl, A.p, dx, _, rfl, ho, nm _ (by simp) _ _, A, r, g, rfl, R, W, fun H1 aU s1 hU e1 => ?_⟩
    have R1 := R.same s1
    obtain ⟨dx1, ho1⟩ := R1.ob
    refine ⟨_, rfl, _, .inl ⟨_, SqL.of e1, rfl⟩, ite2 (fun hc => ?_) (fun hc => ?_)⟩
    · -- something is seen
      have hne : r.unseen ≠ [] := fun e => by rw [e] at hc; cases hc
      obtain ⟨hst2, W'⟩ := step_sees W hne
      rw [hst2] at hst
      cases hst
      replace q := q W'
      refine ⟨(by show 1 ≤ sizeLine; decide), fun l hl => ?_⟩
      have s2 := same_upd (o := .lst [V.int 1]) hl
      have R2 := R1.same s2
      obtain ⟨dx2, ho2⟩ := R2.ob
      have hn : r.unseen.length ≤ 256 := Nat.le_trans (nodup_len r.n r.unseen (by unfold Rover.unseen; exact List.nodup_range.filter _) fun c hc => (unseen_mem.mp hc).1) W.n256
      refine ⟨_, rfl, A.p, dx2, _, rfl, ho2, nm _ (by simp) _ _, _, rfl, A, r, g, aU, r.unseen, rfl, R2, W, s2 _ _ e1, notFoot_new R hU, by unfold Rover.unseen; exact List.nodup_range.filter _, fun c hc => ⟨(unseen_mem.mp hc).1, (unseen_mem.mp hc).2.1⟩, ?_⟩
      exact cat_done R s1 hl (by have := sees_len (Sr38Neutral.ground g) r.unseen r; omega) q
    · have hu : r.unseen = [] := by
        cases e : r.unseen with
        | nil => rfl
        | cons a l => rw [e] at hc; exact absurd rfl hc
      refine ⟨_, rfl, A.p, dx1, _, rfl, ho1, nm _ (by simp) _ _, A, r, g, rfl, R1, W, fun H2 aW s2 hW e2 => ?_⟩
      have s12 := s1.trans s2
      have R2 := R.same s12
      obtain ⟨dx2, ho2⟩ := R2.ob
      have Fd := R2.field (K := K) (aW := aW) (m := r.free) W rfl rfl e2
      refine ⟨_, rfl, _, rfl, A.p, C, dx2, _, _, rfl, ho2, T.cl, T.beside, rf_beside _ _, _, rfl, A.p, C, dx2, _, _, rfl, ho2, T.cl, T.home, rf_home _ _, r.free, aW, A.b, A.nb, r.home, rfl, Fd, W.hm, fun H3 aH hs s3 hH e3 hsl hSum => ?_⟩
      have s13 := s12.trans s3
      have R3 := R.same s13
      obtain ⟨dx3, ho3⟩ := R3.ob
      refine ⟨_, rfl, A.p, dx3, _, rfl, ho3, nm _ (by simp) _ _, _, rfl, _, rfl, A, r, g, aW, aH, hs, rfl, R3, W, s3 _ _ e2, e3, hsl, fun H4 ps best s4 hPs hB => ?_⟩
      have s14 := s13.trans s4
      have R4 := R.same s14
      obtain ⟨dx4, ho4⟩ := R4.ob
      have hW4 : H4 aW = some (.lst (nL (wsOf r.free))) := s4 _ _ (s3 _ _ e2)
      have hH4 := s4 _ _ e3
      have Fd4 := R4.field (K := K) (aW := aW) (m := r.free) W rfl rfl hW4
      have goCase : ∀ (H5 : Hp) (l : Addr) (k : Int) (d : Nat), Same H H5 → H5 l = none → d < r.n → r.map.of d ≤ r.left → Done C H A g Q (r.goes d) (k :: iN [1, d]) → ∀ H6, Same (upd H5 l (.lst [V.int k])) H6 → spGo C ([V.ref A.p, vI d]) H6 (fun x H2 => rCat (.ref l) x H2 Q) E0 := by
        intro H5 l k d s5 hl hd hle qq H6 s6
        have s56 : Same H H6 := (s5.trans (same_upd hl)).trans s6
        refine ⟨A, r, g, d, rfl, R.same s56, hd, hle, fun H7 p R7 fr7 hp e7 => ?_⟩
        exact cat_done R s5 hl (by show 2 ≤ 100000; omega) qq H7 p R7 (fun b o e hb => fr7 _ _ (s6 _ _ e) hb) (s6.free hp) (by rw [e7, nL_iN])
      rcases step_cases W hu hst hPs hSum hB with ⟨c, rfl, hg⟩ | ⟨rfl, hph, d, sc, hd, hle, rfl, rfl, rfl, W'⟩ | ⟨rfl, hph, hlr, rfl, rfl, rfl, W'⟩ | ⟨rfl, hph, hlr, rfl, rfl, rfl, W'⟩
      · -- a goal
        refine ⟨_, rfl, rfl, _, rfl, ?_⟩
        show if (!decide (vI c = V.non)) = true then _ else _
        rw [if_pos (by rw [decide_eq_false (fun z => by cases z)]; rfl)]
        have hcn : c < r.n := hB.1
        refine ⟨_, rfl, _, rfl, A.p, C, dx4, _, _, rfl, ho4, T.cl, T.beside, rf_beside _ _, _, rfl, r.free, aW, A.b, A.nb, c, rfl, Fd4, hcn, fun H5 aG gs s5 hG e5 gsl gSum => ?_⟩
        obtain ⟨d, sc, hd, hle, rfl, rfl, rfl, W'⟩ := hg _ gSum
        replace q := q W'
        have s15 := s14.trans s5
        refine ⟨(by show 1 ≤ sizeLine; decide), fun l hl => ?_⟩
        have s6 := same_upd (o := .lst [V.int 2]) hl
        have R6 := R.same (s15.trans s6)
        obtain ⟨dx6, ho6⟩ := R6.ob
        have Fd6 := R6.field (K := K) (aW := aW) (m := r.free) W rfl rfl (s6 _ _ (s5 _ _ hW4))
        refine ⟨_, rfl, A.p, dx6, _, rfl, ho6, nm _ (by simp) _ _, _, rfl, _, rfl, A.p, C, dx6, _, _, rfl, ho6, T.cl, T.beside, rf_beside _ _, _, rfl, _, rfl, A.p, C, dx6, _, _, rfl, ho6, T.cl, T.place, rf_place _ _, r.free, aW, A.b, aG, A.nb, gs, r.place, d, rfl, Fd6, s6 _ _ e5, gsl, W.pl, sc, fun H7 s7 => ?_⟩
        exact goCase H5 l 2 d s15 hl hd hle q H7 s7
      · -- home
        replace q := q W'
        refine ⟨_, rfl, rfl, _, rfl, ?_⟩
        show if (!decide (V.non = V.non)) = true then _ else _
        rw [if_neg (by rw [decide_eq_true rfl]; exact Bool.false_ne_true)]
        refine ⟨_, rfl, A.p, C, dx4, _, _, rfl, ho4, T.cl, T.place, rf_place _ _, _, rfl, A.p, C, dx4, _, _, rfl, ho4, T.cl, T.home, rf_home _ _, rfl, _, rfl, ite2 (fun h5 => ?_) (fun h5 => ?_)⟩
        · refine ⟨(by show 1 ≤ sizeLine; decide), fun l hl => ?_⟩
          have s6 := same_upd (o := .lst [V.int 3]) hl
          have R6 := R.same (s14.trans s6)
          obtain ⟨dx6, ho6⟩ := R6.ob
          have Fd6 := R6.field (K := K) (aW := aW) (m := r.free) W rfl rfl (s6 _ _ hW4)
          refine ⟨_, rfl, A.p, dx6, _, rfl, ho6, nm _ (by simp) _ _, _, rfl, _, rfl, A.p, C, dx6, _, _, rfl, ho6, T.cl, T.beside, rf_beside _ _, _, rfl, _, rfl, A.p, C, dx6, _, _, rfl, ho6, T.cl, T.place, rf_place _ _, r.free, aW, A.b, aH, A.nb, hs, r.place, d, rfl, Fd6, s6 _ _ hH4, hsl, W.pl, sc, fun H7 s7 => ?_⟩
          exact goCase H4 l 3 d s14 hl hd hle q H7 s7
        · exact absurd (by have := n_eq h5; omega) hph
      · -- charged
        replace q := q W'
        refine ⟨_, rfl, rfl, _, rfl, ?_⟩
        show if (!decide (V.non = V.non)) = true then _ else _
        rw [if_neg (by rw [decide_eq_true rfl]; exact Bool.false_ne_true)]
        refine ⟨_, rfl, A.p, C, dx4, _, _, rfl, ho4, T.cl, T.place, rf_place _ _, _, rfl, A.p, C, dx4, _, _, rfl, ho4, T.cl, T.home, rf_home _ _, rfl, _, rfl, ite2 (fun h5 => ?_) (fun h5 => ?_)⟩
        · exact absurd (by rw [hph]) (n_ne h5)
        · refine ⟨_, rfl, A.p, C, dx4, _, _, rfl, ho4, T.cl, T.left, rf_left _ _, _, rfl, A.p, C, dx4, _, _, rfl, ho4, T.cl, T.room, rf_room _ _, _, _, rfl, rfl, _, rfl, ite2 (fun h6 => ?_) (fun h6 => ?_)⟩
          · refine ⟨_, rfl, A.p, C, dx4, _, _, rfl, ho4, T.cl, T.room, rf_room _ _, _, rfl, A.p, C, dx4, _, rfl, ho4, T.cl, T.left, (by show 15 < 1000; decide), ?_⟩
            obtain ⟨R5, fr5⟩ := R4.setF ho4 (rf_putLeft A r r.room) rfl rfl rfl rfl
            refine ⟨(by show 2 ≤ sizeLine; decide), fun p hp => ?_⟩
            have frA := (Frame.of (A := A) s14).trans fr5
            exact q _ p (R5.same (same_upd hp)) (frA.trans (Frame.of (same_upd hp))) (frA.free R ⟨_, R5⟩ hp) upd_same
          · exact absurd (decide_eq_true (by show (r.left : Int) < (r.room : Int); omega)) h6
      · -- nothing
        replace q := q W'
        refine ⟨_, rfl, rfl, _, rfl, ?_⟩
        show if (!decide (V.non = V.non)) = true then _ else _
        rw [if_neg (by rw [decide_eq_true rfl]; exact Bool.false_ne_true)]
        refine ⟨_, rfl, A.p, C, dx4, _, _, rfl, ho4, T.cl, T.place, rf_place _ _, _, rfl, A.p, C, dx4, _, _, rfl, ho4, T.cl, T.home, rf_home _ _, rfl, _, rfl, ite2 (fun h5 => ?_) (fun h5 => ?_)⟩
        · exact absurd (by rw [hph]) (n_ne h5)
        · refine ⟨_, rfl, A.p, C, dx4, _, _, rfl, ho4, T.cl, T.left, rf_left _ _, _, rfl, A.p, C, dx4, _, _, rfl, ho4, T.cl, T.room, rf_room _ _, _, _, rfl, rfl, _, rfl, ite2 (fun h6 => ?_) (fun h6 => ?_)⟩
          · exact absurd (by have := of_decide_eq_true h6; omega) hlr
          · exact ⟨(by show 1 ≤ sizeLine; decide), fun p hp => q _ p (R4.same (same_upd hp)) (Frame.of (s14.trans (same_upd hp))) (s14.free hp) upd_same⟩
end
end Rv
end
section
set_option Elab.async false
set_option linter.all false
set_option maxRecDepth 100000
set_option maxHeartbeats 4000000
namespace Rv
open PySem PySem.Spec PyProof.Rows L2 RvM
open Sr38 (Rover)
/-- all but the thing at p is as it was -/
def Sx (p : Addr) (H H' : Hp) : Prop := ∀ b o, H b = some o → b ≠ p → H' b = some o
theorem Sx.trans {p : Addr} {H H1 H2 : Hp} (a : Sx p H H1) (b : Sx p H1 H2) : Sx p H H2 := fun c o e hc => b c o (a c o e hc) hc
theorem Sx.of {p : Addr} {H H1 : Hp} (a : Same H H1) : Sx p H H1 := fun c o e _ => a c o e
theorem Sx.free {p b : Addr} {H H1 : Hp} (a : Sx p H H1) (hb : b ≠ p) (h : H1 b = none) : H b = none := by
  cases e : H b with
  | none => rfl
  | some o => rw [a b o e hb] at h; cases h
theorem costs_start (x y home room : Nat) : costsL (Sr38.startR x y home room) = List.replicate (x * y) 0 := by
  unfold costsL
  have : (Sr38.startR x y home room).map.of = fun _ => 0 := funext fun c => getD_rep _ c
  rw [this, List.map_const', List.length_range]
  rfl
theorem stF {K : PySem.W.Frag} {C p dx : Addr} {fs : List (Str × V)} {f : Str} {y : V} {σ : L2.St} {H1 : Hp} {nx : L2.St → Hp → Prop} (cl : Cls K C) (na : NoAttr K C f) (hσ : σ[0]? = some (some (.ref p))) (hl : fs.length < 1000) (h : H1 p = some (.ins C dx fs))
    (k : ∀ H2, Sx p H1 H2 → H2 p = some (.ins C dx (putF f y fs)) → nx σ H2) :
    tVar 0 σ H1 fun x H2 => ∃ a C dx fs, x = .ref a ∧ H2 a = some (.ins C dx fs) ∧ Cls K C ∧ NoAttr K C f ∧ fs.length < 1000 ∧ nx σ (upd H2 a (.ins C dx (putF f y fs))) :=
  ⟨_, hσ, p, C, dx, fs, rfl, h, cl, na, hl, k _ (fun b o e hb => by rw [upd_ne hb]; exact e) upd_same⟩
theorem cut_take {xs : List V} {n : Nat} (h : n ≤ xs.length) : cutV xs none (some ((n : Nat) : Int)) = xs.take n := by
  unfold cutV
  have e1 : HT.sIx xs.length 0 none = 0 := rfl
  have e2 : HT.sIx xs.length xs.length (some ((n : Nat) : Int)) = n := by
    unfold HT.sIx
    simp only
    split <;> omega
  rw [e1, e2]
  simp
theorem lt1000 {fs : List (Str × V)} (h : decide (fs.length < 1000) = true) : fs.length < 1000 := of_decide_eq_true h
theorem rep_bl (n : Nat) : (List.replicate n ([V.bl false] : List V)).flatten = flags n [] := by
  have e : flags n [] = List.replicate n (V.bl false) := by
    unfold flags
    have : (fun c => V.bl (([] : List Nat).contains c)) = fun _ => V.bl false := funext fun c => by simp
    rw [this, List.map_const', List.length_range]
  rw [e]
  clear e
  induction n with
  | zero => rfl
  | succ n ih => rw [List.replicate_succ, List.replicate_succ, List.flatten_cons, ih]; rfl
section
variable {P : Program} {w : World} {K : PySem.W.Frag} {mg : Str → Option Value} {base : Heap}
def spInit (C : Addr) : Sp := fun vs H Q _ => ∃ (p dx ag : Addr) (x y home room : Nat) (g : List Nat), vs = [.ref p, vI x, vI y, vI home, vI room, .ref ag] ∧ H p = some (.ins C dx []) ∧ H ag = some (.lst (nL g)) ∧ Sr38.okStart x y home room = true ∧ g.length = 256 ∧
  ∀ (H' : Hp) (A : RA), A.p = p → RoverAt C H' A (Sr38.startR x y home room) g → Sx p H H' → (∀ b, Its A b → b ≠ p → H b = none) → Q .non H'
theorem scInit : FnScope ["self", "width", "height", "home", "room", "ground", "cell"] ["self", "width", "height", "home", "room", "ground"] (defScope sInit) := ⟨rfl, rfl, rfl, by decide +kernel, rfl, by decide +kernel, by decide +kernel⟩
theorem ok_init {f C : Addr} {fd : FuncData} (F : Fun K "__init__" "Rover.__init__" sInit f fd) (G : Gs mg) (T : RT K C) (CA : Cal P w K mg base "all_neighbours" 2 ["width", "height"] spAllNb) : FnOk P w K mg base CX0 3 f fd ["self", "width", "height", "home", "room", "ground"] (spInit C) := by
  refine F.ok scInit (fun vs H Q E h => ?_) (fun cdv A' outer s H vs Q E hr h => ?_)
  · obtain ⟨p, dx, ag, x, y, home, room, g, rfl, _⟩ := h
    rfl
  · obtain ⟨p, dx, ag, x, y, home, room, g, rfl, hp, hag, hok, hgl, q⟩ := h
    have hok' := hok
    unfold Sr38.okStart Sr37.okSize at hok'
    simp only [Bool.and_eq_true, decide_eq_true_eq] at hok'
    obtain ⟨⟨⟨⟨⟨x1, x2⟩, y1, y2⟩, hh⟩, rm1⟩, rm2⟩ := hok'
    have n256 := mul_small x2 y2
    refine ⟨_, pss_cons (ps_fld (pv 0) (pe_op op_mul (pv 1) (pv 2)) rfl)
      (pss_cons (ps_fld (pv 0) (pe_cal CA hr rfl (pa_cons (pv 1) (pa_cons (pv 2) pa_nil))) rfl)
      (pss_cons (ps_fld (pv 0) (pe_slice sl_list (pv 5) po_none (po_some (pe_fld (pv 0) rfl))) rfl)
      (pss_cons (ps_fld (pv 0) (pv 3) rfl) (pss_cons (ps_fld (pv 0) (pv 4) rfl)
      (pss_cons (ps_fld (pv 0) (pe_op op_rep (pe_lst (pa_cons pe_int pa_nil)) (pe_fld (pv 0) rfl)) rfl)
      (pss_cons (ps_fld (pv 0) (pv 3) rfl) (pss_cons (ps_fld (pv 0) (pv 4) rfl)
      (pss_cons (ps_fld (pv 0) (pe_lc (own := [("cell", 6)]) rfl scInit.nd (pi_range1 rfl G.range (pa_cons (pe_fld (pv 0) rfl) pa_nil)) (blkOk_by (by kernel_rfl)) (fun _ _ _ _ _ => pg_name (i := 6) scInit.nd rfl (Or.inl rfl)) (fun _ _ _ _ _ => pts_nil) (fun _ _ _ _ _ => pe_cmpR op_eq (pv 6) (pv 3) (nomark _))) rfl)
      (pss_cons (ps_fld (pv 0) (pe_op op_rep (pe_lst (pa_cons pe_bl pa_nil)) (pe_fld (pv 0) rfl)) rfl)
      (pss_cons (ps_fld (pv 0) (pe_lst pa_nil) rfl) (pss_cons (ps_fld (pv 0) pe_int rfl) (pss_cons (ps_fld (pv 0) pe_int rfl) (pss_cons (ps_fld (pv 0) (pe_gi rfl G.NO) rfl) (pss_one (ps_fld (pv 0) pe_int rfl))))))))))))))), ?_⟩
    -- size
    refine ⟨_, rfl, _, rfl, _, _, rfl, rfl, .inl ⟨by omega, by omega⟩, stF T.cl T.size rfl (by show 0 < 1000; decide) hp fun H1 x1' h1 => ?_⟩
    -- beside
    refine ⟨_, rfl, _, rfl, x, y, rfl, x1, x2, y2, fun H2 aB as s2 hB e2 nb2 nas => stF T.cl T.beside rfl (lt1000 (by kernel_rfl)) (s2 _ _ h1) fun H3 x3 h3 => ?_⟩
    have pB : aB ≠ p := (ne_of_none h1 hB).symm
    have pas : ∀ a ∈ as, a ≠ p := fun a ha => (ne_of_none h1 (nas a ha)).symm
    -- ground
    have c3 : Sx p H H3 := (x1'.trans (Sx.of s2)).trans x3
    have pg : ag ≠ p := (ne_of hp hag (by intro z; cases z)).symm
    have hag3 := c3 _ _ hag pg
    refine ⟨_, rfl, _, rfl, p, C, dx, _, _, rfl, h3, T.cl, T.size, (by kernel_rfl : _ = some (V.int ((x : Int) * (y : Int)))), _, rfl, ag, _, rfl, SqL.of hag3, fun aG hG => stF T.cl T.ground rfl (lt1000 (by kernel_rfl)) (same_upd hG _ _ h3) fun H4 x4 h4 => ?_⟩
    have pG : aG ≠ p := (ne_of_none h3 hG).symm
    have eG : cutV (nL g) none (some ((x : Int) * (y : Int))) = nL (g.take (x * y)) := by
      refine (cut_take (n := x * y) (by rw [List.length_map]; omega)).trans ?_
      rw [nL, nL, List.map_take]
    have hG4 : H4 aG = some (.lst (nL (g.take (x * y)))) := by rw [← eG]; exact x4 _ _ upd_same pG
    have c4 : Sx p H3 H4 := (Sx.of (same_upd hG)).trans x4
    -- home, room
    refine ⟨_, rfl, stF T.cl T.home rfl (lt1000 (by kernel_rfl)) h4 fun H5 x5 h5 => ⟨_, rfl, stF T.cl T.room rfl (lt1000 (by kernel_rfl)) h5 fun H6 x6 h6 => ?_⟩⟩
    -- costs
    refine ⟨(by show 1 ≤ sizeLine; decide), fun l1 hl1 => ?_⟩
    have h6' := same_upd (o := .lst [V.int 0]) hl1 _ _ h6
    refine ⟨_, rfl, p, C, dx, _, _, rfl, h6', T.cl, T.size, (by kernel_rfl : _ = some (V.int ((x : Int) * (y : Int)))), l1, _, _, rfl, rfl, upd_same, (by show -(2 ^ 63) ≤ ((x * y : Nat) : Int); omega), (by show ((x * y : Nat) : Int) < 2 ^ 63; omega), ?_, fun aC hC => ?_⟩
    · show 1 * ((x * y : Nat) : Int).toNat ≤ sizeLine
      rw [Int.toNat_natCast]
      exact line_small (by omega)
    have eC : (List.replicate ((x : Int) * (y : Int)).toNat ([V.int 0] : List V)).flatten = nL (List.replicate (x * y) 0) := by
      rw [show ((x : Int) * (y : Int)).toNat = x * y from Int.toNat_natCast (x * y)]
      exact rep_nL _
    refine stF T.cl T.costs rfl (lt1000 (by kernel_rfl)) (same_upd hC _ _ h6') fun H7 x7 h7 => ?_
    have pC : aC ≠ p := (ne_of_none h6' hC).symm
    have hC7 : H7 aC = some (.lst (nL (List.replicate (x * y) 0))) := by rw [← eC]; exact x7 _ _ upd_same pC
    have c7 : Sx p H6 H7 := (Sx.of ((same_upd hl1).trans (same_upd hC))).trans x7
    have c37 : Sx p H4 H7 := (x5.trans x6).trans c7
    -- place, left
    refine ⟨_, rfl, stF T.cl T.place rfl (lt1000 (by kernel_rfl)) h7 fun H8 x8 h8 => ⟨_, rfl, stF T.cl T.left rfl (lt1000 (by kernel_rfl)) h8 fun H9 x9 h9 => ?_⟩⟩
    -- been
    refine ⟨_, rfl, p, C, dx, _, _, rfl, h9, T.cl, T.size, (by kernel_rfl : _ = some (V.int ((x : Int) * (y : Int)))), _, rfl, (by show -(2 ^ 62) ≤ ((x * y : Nat) : Int); omega), (by show ((x * y : Nat) : Int) < 2 ^ 62; omega), fun aE hE => ?_⟩
    rw [show ((x : Int) * (y : Int)).toNat = x * y from Int.toNat_natCast (x * y)]
    refine lc_range (fun i H' => H' aE = some (.lst ((flags (x * y) [home]).take i)) ∧ Same H9 H') ⟨upd_same, same_upd hE⟩ ?_ ?_
    · rintro i H10 hi ⟨he, s10⟩
      refine ⟨rfl, tYes_if ?_⟩
      rw [Int.zero_add]
      refine ⟨_, rfl, _, rfl, rfl, _, he, ?_, ?_, fun b o e => by rw [upd_ne (ne_of_none e hE)]; exact s10 _ _ e⟩
      · rw [List.length_take]
        exact Nat.lt_of_le_of_lt (Nat.min_le_left _ _) (Nat.lt_of_lt_of_le (show i < 257 by omega) (by decide))
      · have ei : (flags (x * y) [home])[i]? = some (.bl (decide (V.int (i : Int) = vI home))) := by
          rw [flags, List.getElem?_map, List.getElem?_range hi]
          show some (V.bl (([home] : List Nat).contains i)) = _
          congr 2
          by_cases q : i = home
          · subst q
            rw [decide_eq_true rfl]
            simp
          · rw [decide_eq_false (fun z => q (by have := V.int.inj z; omega))]
            simp [q]
        rw [upd_same, take_snoc ei]
    · rintro H10 ⟨he, s10⟩
      rw [show (flags (x * y) [home]).take (x * y) = flags (x * y) [home] from List.take_of_length_le (by simp [flags])] at he
      refine stF T.cl T.been rfl (lt1000 (by kernel_rfl)) (s10 _ _ h9) fun H11 x11 h11 => ?_
      have pE : aE ≠ p := (ne_of_none h9 hE).symm
      have he11 := x11 _ _ he pE
      have c11 : Sx p H9 H11 := (Sx.of s10).trans x11
      -- kept_out
      refine ⟨(by show 1 ≤ sizeLine; decide), fun l2 hl2 => ?_⟩
      have h11' := same_upd (o := .lst [V.bl false]) hl2 _ _ h11
      refine ⟨_, rfl, p, C, dx, _, _, rfl, h11', T.cl, T.size, (by kernel_rfl : _ = some (V.int ((x : Int) * (y : Int)))), l2, _, _, rfl, rfl, upd_same, (by show -(2 ^ 63) ≤ ((x * y : Nat) : Int); omega), (by show ((x * y : Nat) : Int) < 2 ^ 63; omega), ?_, fun aK hK => ?_⟩
      · show 1 * ((x * y : Nat) : Int).toNat ≤ sizeLine
        rw [Int.toNat_natCast]
        exact line_small (by omega)
      have eK : (List.replicate ((x : Int) * (y : Int)).toNat ([V.bl false] : List V)).flatten = flags (x * y) [] := by
        rw [show ((x : Int) * (y : Int)).toNat = x * y from Int.toNat_natCast (x * y)]
        exact rep_bl _
      refine stF T.cl T.kept_out rfl (lt1000 (by kernel_rfl)) (same_upd hK _ _ h11') fun H12 x12 h12 => ?_
      have pK : aK ≠ p := (ne_of_none h11' hK).symm
      have hK12 : H12 aK = some (.lst (flags (x * y) [])) := by rw [← eK]; exact x12 _ _ upd_same pK
      have c12 : Sx p H11 H12 := (Sx.of ((same_upd hl2).trans (same_upd hK))).trans x12
      -- seen
      refine ⟨Nat.zero_le _, fun aS hS => stF T.cl T.seen rfl (lt1000 (by kernel_rfl)) (same_upd hS _ _ h12) fun H13 x13 h13 => ?_⟩
      have pS : aS ≠ p := (ne_of_none h12 hS).symm
      have hS13 : H13 aS = some (.lst []) := x13 _ _ upd_same pS
      have c13 : Sx p H12 H13 := (Sx.of (same_upd hS)).trans x13
      -- had, last_number, last_answer, ticks
      refine stF T.cl T.had rfl (lt1000 (by kernel_rfl)) h13 fun H14 x14 h14 => ?_
      refine stF T.cl T.last_number rfl (lt1000 (by kernel_rfl)) h14 fun H15 x15 h15 => ?_
      refine stF T.cl T.last_answer rfl (lt1000 (by kernel_rfl)) h15 fun H16 x16 h16 => ?_
      refine stF T.cl T.ticks rfl (lt1000 (by kernel_rfl)) h16 fun H17 x17 h17 => ?_
      have d17 : Sx p H13 H17 := ((x14.trans x15).trans x16).trans x17
      have d12 : Sx p H12 H17 := c13.trans d17
      have d11 : Sx p H11 H17 := c12.trans d12
      have d9 : Sx p H9 H17 := c11.trans d11
      have d7 : Sx p H7 H17 := (x8.trans x9).trans d9
      have d4 : Sx p H4 H17 := c37.trans d7
      have d3 : Sx p H3 H17 := c4.trans d4
      have d2 : Sx p H2 H17 := x3.trans d3
      have a9 : Sx p H7 H9 := x8.trans x9
      have a49 : Sx p H4 H9 := c37.trans a9
      have a29 : Sx p H2 H9 := (x3.trans c4).trans a49
      -- what stood at a cell's list before, there and later
      have old : ∀ {b : Addr} {o : HO} {Hx : Hp}, Hx b = some o → b ≠ p → Sx p Hx H9 → b ≠ aE ∧ b ≠ aK ∧ b ≠ aS := fun {b o Hx} e hb sx => by
        have e9 := sx _ _ e hb
        have e11 := c11 _ _ e9 hb
        have e12 := c12 _ _ e11 hb
        exact ⟨ne_of_none e9 hE, ne_of_none (same_upd hl2 _ _ e11) hK, ne_of_none e12 hS⟩
      obtain ⟨n1, n2, n3⟩ := old hC7 pC a9
      have n4 : aE ≠ aK := ne_of_none (same_upd hl2 _ _ he11) hK
      have n5 : aE ≠ aS := ne_of_none (c12 _ _ he11 pE) hS
      have n6 : aK ≠ aS := ne_of_none hK12 hS
      have toC : ∀ {b : Addr} {o : HO} {Hx : Hp}, Hx b = some o → b ≠ p → Sx p Hx H6 → b ≠ aC := fun {b o Hx} e hb sx => ne_of_none (same_upd hl1 _ _ (sx _ _ e hb)) hC
      have b46 : Sx p H4 H6 := x5.trans x6
      have b26 : Sx p H2 H6 := (x3.trans c4).trans b46
      have f1 : ∀ {b : Addr} {Hx : Hp}, Sx p H Hx → b ≠ p → Hx b = none → H b = none := fun sx hb h => sx.free hb h
      have g6 : Sx p H H6 := (c3.trans c4).trans b46
      have g9 : Sx p H H9 := (c3.trans c4).trans a49
      have apB : ∀ {b : Addr} {o : HO} {Hx : Hp}, Hx b = some o → b ≠ p → Sx p Hx H6 → Sx p Hx H9 → b ∉ [aC, aE, aK, aS] := fun e hb s6 s9 hm => by
        obtain ⟨m1, m2, m3⟩ := old e hb s9
        have m0 := toC e hb s6
        simp only [List.mem_cons, List.not_mem_nil, or_false] at hm
        rcases hm with z | z | z | z
        · exact m0 z
        · exact m1 z
        · exact m2 z
        · exact m3 z
      refine q H17 ⟨p, aB, aG, aC, aE, aK, aS, as⟩ rfl ⟨⟨dx, ?_⟩, d2 _ _ e2 pB, ⟨nb2.1, fun c a h => d2 _ _ (nb2.2 c a h) (pas a (List.mem_of_getElem? h))⟩, d4 _ _ hG4 pG, ?_, d11 _ _ he11 pE, d12 _ _ hK12 pK, d17 _ _ hS13 pS, ?_, ?_⟩ (c3.trans d3) ?_
      · rw [h17]
        kernel_rfl
      · rw [costs_start]
        exact d7 _ _ hC7 pC
      · simp only [List.nodup_cons, List.mem_cons, List.not_mem_nil, or_false, not_or, List.nodup_nil, and_true, not_false_eq_true]
        exact ⟨⟨n1, n2, n3⟩, ⟨n4, n5⟩, n6⟩
      · intro a ha
        rcases ha with rfl | rfl | ha
        · exact apB e2 pB b26 a29
        · exact apB hG4 pG b46 a49
        · obtain ⟨i, hi, e⟩ := List.mem_iff_getElem.mp ha
          have := nb2.2 i a (by rw [← e]; exact List.getElem?_eq_getElem hi)
          exact apB this (pas a ha) b26 a29
      · intro b hb hbp
        rcases hb with hb | rfl | rfl | hb
        · simp only [foot, List.mem_cons, List.not_mem_nil, or_false] at hb
          rcases hb with rfl | rfl | rfl | rfl | rfl
          · exact absurd rfl hbp
          · exact f1 g6 hbp ((same_upd hl1).free hC)
          · exact f1 g9 hbp hE
          · exact f1 (g9.trans c11) hbp ((same_upd hl2).free hK)
          · exact f1 ((g9.trans c11).trans c12) hbp hS
        · exact f1 x1' hbp hB
        · exact f1 c3 hbp hG
        · exact f1 x1' hbp (nas b hb)
end
end Rv
end
section
set_option Elab.async false
set_option linter.all false
set_option maxRecDepth 100000
set_option maxHeartbeats 4000000
namespace Rv
open PySem PySem.Spec PyProof.Rows L2 RvM
open Sr38 (Rover)
/-- a rover stays well formed when it hears something -/
theorem heard_wf {r r' : Rover} {g : List Nat} {b : List Nat} {evs : List Sr38.Ev} {ans : Sr38.Ans} (W : WF r g) (hb : ∀ x ∈ b, x ≤ 255) (h : Sr38Neutral.reckonR (Sr38Neutral.ground g) r (.heard (took b)) = some (evs, r', ans)) : WF r' g := by
  cases h1 : isOut r.n b with
  | true =>
    have hc4 : b.getD 4 0 < r.n := by
      have ho' := h1
      unfold isOut at ho'
      simp only [Bool.and_eq_true, decide_eq_true_eq] at ho'
      exact ho'.1.2
    rcases heard_out h1 h with ⟨hk, y, hy, rfl, _⟩ | ⟨_, rfl, _⟩
    · exact out_wf W hc4 hy (num_le hb)
    · exact W
  | false =>
    cases h2 : isHad b with
    | true =>
      have hh := heard_had h1 h2 h
      by_cases hc : RvM.numOf b = r.had + 1 ∧ RvM.numOf b ≤ r.saw.length
      · rw [if_pos hc] at hh
        rw [hh.1]
        exact { W with hd := hc.2 }
      · rw [if_neg hc] at hh
        rw [hh.1]
        exact W
    | false =>
      rw [(heard_not h1 h2 h).1]
      exact W
/-- the line's two ends -/
def lf (rv pv : V) : List (Str × V) := [("rover", rv), ("people", pv)]
theorem lf_rover (rv pv : V) : (lf rv pv).lookup ("rover" : Str) = some rv := by kernel_rfl
theorem lf_people (rv pv : V) : (lf rv pv).lookup ("people" : Str) = some pv := by kernel_rfl
theorem lf_putRover (rv pv v : V) : putF "rover" v (lf rv pv) = lf v pv := by kernel_rfl
theorem lf_putPeople (rv pv v : V) : putF "people" v (lf rv pv) = lf rv v := by kernel_rfl
structure LT (K : PySem.W.Frag) (CL : Addr) : Prop where
  cl : Cls K CL
  rover : NoAttr K CL "rover"
  people : NoAttr K CL "people"
/-- C(..) of an own class by its __init__'s promise -/
def MkCal (P : Program) (w : World) (K : PySem.W.Frag) (mg : Str → Option Value) (base : Heap) (x : Str) (C : Addr) (k : Nat) (ps : List Str) (sp : Sp) : Prop :=
  ∃ (f : Addr) (fd : FuncData), mg x = some (.ref C) ∧ Mk K C f ∧ Binds K fd ps [] ∧ FnOk P w K mg base CX0 k f fd ps sp
theorem pe_mk {X : Cx} {x : Str} {C : Addr} {k : Nat} {ps : List Str} {sp : Sp} {e : Expr} {es : List Expr} {t : TA} {p pos : Pos} (M : MkCal X.prog X.w X.K X.mg X.base x C k ps sp) (hr : Room (k + 1) X.A) (hg : Gl X x) (ha : PA X (e :: es) t) (hdb : (x == ("__debug__" : Str)) = false := by decide)
    (he : starEach (e :: es) X.env = (false, eval e X.env) :: starEach es X.env := by rfl) (hpl : (backTo pos (starEach es X.env)).any (·.1) = false := by rfl) : PE X (.Call (.Name x p) (e :: es) [] pos) (tMake C sp [] E0 t) := by
  obtain ⟨f, fd, hm, M, hb, F⟩ := M
  exact pe_make M F hr hg hm hb .nil pass0 ha hdb he hpl
abbrev sStartRover : Stmt := inClass (top 63) 1
section
variable {P : Program} {w : World} {K : PySem.W.Frag} {mg : Str → Option Value} {base : Heap}
structure Gl2 (mg : Str → Option Value) : Prop where
  BAD_VALUE : ∃ t, mg "BAD_VALUE" = some (Value.int (-22) t)
  MOST_ROOM : ∃ t, mg "MOST_ROOM" = some (Value.int 65535 t)
def spStartRover (C CL : Addr) : Sp := fun vs H Q _ => ∃ (Lp dx ag : Addr) (rv pv : V) (x y home room : Nat) (g : List Nat), vs = [.ref Lp, vI x, vI y, vI home, vI room, .ref ag] ∧ H Lp = some (.ins CL dx (lf rv pv)) ∧ H ag = some (.lst (nL g)) ∧ g.length = 256 ∧
  (Sr38.okStart x y home room = false → NewList H Q (iL [-22])) ∧
  (Sr38.okStart x y home room = true → ∀ (H' : Hp) (A : RA) (p : Addr), RoverAt C H' A (Sr38.startR x y home room) g → H' Lp = some (.ins CL dx (lf (.ref A.p) pv)) → Sx Lp H H' → (∀ b, Its A b → H b = none) → H p = none → ¬ Its A p → H' p = some (.lst (iL [0])) → Q (.ref p) H')
theorem scStartRover : FnScope ["self", "width", "height", "home", "room", "ground"] ["self", "width", "height", "home", "room", "ground"] (defScope sStartRover) := ⟨rfl, rfl, rfl, by decide +kernel, rfl, by decide +kernel, by decide +kernel⟩
theorem ok_startRover {f C CL : Addr} {fd : FuncData} (F : Fun K "start_rover" "Line.start_rover" sStartRover f fd) (G2 : Gl2 mg) (T : LT K CL) (CS : Cal P w K mg base "sides_fit" 1 ["width", "height"] spSides)
    (MR : MkCal P w K mg base "Rover" C 3 ["self", "width", "height", "home", "room", "ground"] (spInit C)) : FnOk P w K mg base CX0 5 f fd ["self", "width", "height", "home", "room", "ground"] (spStartRover C CL) := by
  refine F.ok scStartRover (fun vs H Q E h => ?_) (fun cdv A' outer s H vs Q E hr h => ?_)
  · obtain ⟨Lp, dx, ag, rv, pv, x, y, home, room, g, rfl, _⟩ := h
    rfl
  · obtain ⟨Lp, dx, ag, rv, pv, x, y, home, room, g, rfl, hL, hag, hgl, qn, qy⟩ := h
    have hr1 : Room 1 _ := hr.mono (by decide)
    have hr4 : Room 4 _ := hr.mono (by decide)
    refine ⟨_, pss_cons (ps_if (PW.pt (pw_or (pt_not (pt_val (pe_cal CS hr1 rfl (pa_cons (L2.pv 1) (pa_cons (L2.pv 2) pa_nil))))) (pw_or1 (pt_cmpR op_ge (L2.pv 3) (pe_op op_mul (L2.pv 1) (L2.pv 2)) (nomark _))))) (pss_one (ps_ret (pe_lst (pa_cons (pe_gi rfl G2.BAD_VALUE) pa_nil)))) pss_nil)
      (pss_cons (ps_if (PW.pt (pw_or (pt_cmpR op_lt (L2.pv 4) pe_int (nomark _)) (pw_or1 (pt_cmpR op_gt (L2.pv 4) (pe_gi rfl G2.MOST_ROOM) (nomark _))))) (pss_one (ps_ret (pe_lst (pa_cons (pe_gi rfl G2.BAD_VALUE) pa_nil)))) pss_nil)
      (pss_cons (ps_fld (L2.pv 0) (pe_mk MR hr4 rfl (pa_cons (L2.pv 1) (pa_cons (L2.pv 2) (pa_cons (L2.pv 3) (pa_cons (L2.pv 4) (pa_cons (L2.pv 5) pa_nil)))))) rfl)
      (pss_one (ps_ret (pe_lst (pa_cons pe_int pa_nil)))))), ?_⟩
    have no : Sr38.okStart x y home room = false → ∀ p, H p = none → Q (.ref p) (upd H p (.lst [V.int (-22)])) := fun e p hp => qn e _ p (same_upd hp) hp upd_same
    have one : (1 : Nat) ≤ sizeLine := by decide
    refine ⟨_, rfl, _, rfl, x, y, rfl, _, rfl, ite2 (fun h1 => iteT ?_) (fun h1 => ?_)⟩
    · refine ⟨one, no ?_⟩
      unfold Sr38.okStart
      have : (Sr37.okSize x && Sr37.okSize y) = false := by
        cases e : (Sr37.okSize x && Sr37.okSize y) with
        | false => rfl
        | true => rw [e] at h1; cases h1
      rw [this]
      simp
    have hsz : (Sr37.okSize x && Sr37.okSize y) = true := by
      cases e : (Sr37.okSize x && Sr37.okSize y) with
      | true => rfl
      | false => rw [e] at h1; exact absurd rfl h1
    have hb : x ≤ 16 ∧ y ≤ 16 := by
      unfold Sr37.okSize at hsz
      simp only [Bool.and_eq_true, decide_eq_true_eq] at hsz
      exact ⟨hsz.1.2, hsz.2.2⟩
    refine ⟨_, rfl, _, rfl, _, rfl, _, _, rfl, rfl, .inl ⟨by omega, by omega⟩, _, _, rfl, rfl, _, rfl, ite2 (fun h2 => ?_) (fun h2 => ?_)⟩
    · refine ⟨one, no ?_⟩
      have h2' : ((x * y : Nat) : Int) ≤ (home : Int) := of_decide_eq_true h2
      unfold Sr38.okStart
      rw [decide_eq_false (show ¬ home < x * y by omega)]
      simp
    have hh : home < x * y := by
      have h2' : ¬ ((x * y : Nat) : Int) ≤ (home : Int) := fun z => h2 (decide_eq_true z)
      omega
    refine ⟨_, rfl, _, _, rfl, rfl, _, rfl, ite2 (fun h3 => iteT ?_) (fun h3 => ?_)⟩
    · refine ⟨one, no ?_⟩
      have h3' := of_decide_eq_true h3
      unfold Sr38.okStart
      rw [decide_eq_false (show ¬ 1 ≤ room by omega)]
      simp
    have hr1' : 1 ≤ room := by
      have h3' : ¬ (room : Int) < 1 := fun z => h3 (decide_eq_true z)
      omega
    refine ⟨_, rfl, _, _, rfl, rfl, _, rfl, ite2 (fun h4 => ?_) (fun h4 => ?_)⟩
    · refine ⟨one, no ?_⟩
      have h4' := of_decide_eq_true h4
      unfold Sr38.okStart
      rw [decide_eq_false (show ¬ room ≤ 65535 by omega)]
      simp
    have hr2' : room ≤ 65535 := by
      have h4' : ¬ (65535 : Int) < (room : Int) := fun z => h4 (decide_eq_true z)
      omega
    have hok : Sr38.okStart x y home room = true := by
      unfold Sr38.okStart
      rw [hsz, decide_eq_true hh, decide_eq_true hr1', decide_eq_true hr2']
      rfl
    refine ⟨_, rfl, _, rfl, _, rfl, _, rfl, _, rfl, fun rp rd' nrp nrd nne => ?_⟩
    have s0 : Same H (upd (upd H rd' (.own rp)) rp (.ins C rd' [])) := fun b o e => by rw [upd_ne (ne_of_none e nrp), upd_ne (ne_of_none e nrd)]; exact e
    refine ⟨rp, rd', ag, x, y, home, room, g, rfl, upd_same, s0 _ _ hag, hok, hgl, fun H2 A eA R2 sx2 new2 => ⟨rfl, ?_⟩⟩
    have s2 : Same H H2 := fun b o e => sx2 _ _ (s0 _ _ e) (ne_of_none e nrp)
    have hitsL : ∀ b, Its A b → H b = none := fun b hb => by
      by_cases e : b = rp
      · rw [e]; exact nrp
      · exact s0.free (new2 b hb e)
    refine ⟨_, rfl, Lp, CL, dx, _, rfl, s2 _ _ hL, T.cl, T.rover, (by show 2 < 1000; decide), one, fun p hp => ?_⟩
    have itsNe : ∀ b, Its A b → b ≠ Lp := fun b hb e => by rw [e] at hb; rw [hitsL _ hb] at hL; cases hL
    have hR3 : RoverAt C (upd H2 Lp (.ins CL dx (putF "rover" (.ref rp) (lf rv pv)))) A (Sr38.startR x y home room) g := R2.on fun b hb o e => by rw [upd_ne (itsNe b hb)]; exact e
    have sp := same_upd (o := .lst [V.int 0]) hp
    refine qy hok _ A p (hR3.same sp) ?_ (fun b o e hb => sp _ _ (by rw [upd_ne hb]; exact s2 _ _ e)) hitsL ?_ (fun z => its_new hR3 hp _ z rfl) upd_same
    · refine sp _ _ ?_
      rw [upd_same, lf_putRover, eA]
    · cases e : H p with
      | none => rfl
      | some o =>
        by_cases z : p = Lp
        · rw [z, upd_same] at hp; cases hp
        · rw [upd_ne z, s2 _ _ e] at hp; cases hp
end
end Rv
end
section
set_option Elab.async false
set_option linter.all false
set_option maxRecDepth 100000
set_option maxHeartbeats 4000000
namespace Rv
open PySem PySem.Spec PyProof.Rows L2 RvM
open Sr38Neutral (S tried asked1)
abbrev sLineInit : Stmt := inClass (top 63) 0
abbrev sHasRow : Stmt := top 64
abbrev sAnswers : Stmt := top 65
/-- what a line is in the heap: its address, its state, the addresses that are its own -/
structure LineForm (CL : Addr) where
  at_ : Hp → Addr → S → (Addr → Prop) → Prop
  on : ∀ {H H' : Hp} {p : Addr} {s : S} {O : Addr → Prop}, at_ H p s O → (∀ b, O b → ∀ o, H b = some o → H' b = some o) → at_ H' p s O
  has : ∀ {H : Hp} {p : Addr} {s : S} {O : Addr → Prop}, at_ H p s O → ∀ b, O b → H b ≠ none
  ins : ∀ {H : Hp} {p : Addr} {s : S} {O : Addr → Prop}, at_ H p s O → ∃ dx rv pv, H p = some (.ins CL dx (lf rv pv))
/-- a call is done: what the line is now, what's answered -/
def LDone {CL : Addr} (F : LineForm CL) (H : Hp) (Lp : Addr) (O : Addr → Prop) (Q : VK) (y : S × List Int) : Prop :=
  ∀ (H' : Hp) (O' : Addr → Prop) (p : Addr), F.at_ H' Lp y.1 O' → (∀ b o, H b = some o → ¬ O b → H' b = some o) → (∀ b, O' b → O b ∨ H b = none) → H p = none → ¬ O' p → H' p = some (.lst (iL y.2)) → Q (.ref p) H'
def spAnswer {CL : Addr} (F : LineForm CL) : Sp := fun vs H Q _ => ∃ (Lp ap ar : Addr) (s : S) (O : Addr → Prop) (p : Int) (ps row : List Int) (y : S × List Int), vs = [.ref Lp, .ref ap, .ref ar] ∧ F.at_ H Lp s O ∧ H ap = some (.lst (iL (p :: ps))) ∧ H ar = some (.lst (iL row)) ∧ ¬ O ap ∧ ¬ O ar ∧
  (∃ n, (PySr38.shape p = some (n, 0) ∧ row = [] ∧ asked1 [p :: ps] = true ∧ tried s [p :: ps] = some y) ∨ (PySr38.shape p = some (n, 1) ∧ asked1 [p :: ps, row] = true ∧ tried s [p :: ps, row] = some y)) ∧ LDone F H Lp O Q y
section
variable {P : Program} {w : World} {K : PySem.W.Frag} {mg : Str → Option Value} {base : Heap}
structure Gl3 (mg : Str → Option Value) : Prop where
  RV_START : ∃ t, mg "RV_START" = some (Value.int 0 t)
  RV_STEP : ∃ t, mg "RV_STEP" = some (Value.int 1 t)
  RV_HEARD : ∃ t, mg "RV_HEARD" = some (Value.int 2 t)
  RV_TICK : ∃ t, mg "RV_TICK" = some (Value.int 3 t)
  RV_STATE : ∃ t, mg "RV_STATE" = some (Value.int 4 t)
def spLineInit (CL : Addr) : Sp := fun vs H Q _ => ∃ (Lp dx : Addr), vs = [.ref Lp] ∧ H Lp = some (.ins CL dx []) ∧ Q .non (upd H Lp (.ins CL dx (lf .non .non)))
theorem scLineInit : FnScope ["self"] ["self"] (defScope sLineInit) := ⟨rfl, rfl, rfl, by decide +kernel, rfl, by decide +kernel, by decide +kernel⟩
theorem ok_lineInit {f CL : Addr} {fd : FuncData} (F : Fun K "__init__" "Line.__init__" sLineInit f fd) (T : LT K CL) : FnOk P w K mg base CX0 1 f fd ["self"] (spLineInit CL) := by
  refine F.ok scLineInit (fun vs H Q E h => ?_) (fun cdv A' outer s H vs Q E hr h => ?_)
  · obtain ⟨Lp, dx, rfl, _⟩ := h
    rfl
  · obtain ⟨Lp, dx, rfl, hL, q⟩ := h
    refine ⟨_, pss_cons (ps_fld (L2.pv 0) pe_non rfl) (pss_one (ps_fld (L2.pv 0) pe_non rfl)), ?_⟩
    refine ⟨_, rfl, Lp, CL, dx, _, rfl, hL, T.cl, T.rover, (by show 0 < 1000; decide), _, rfl, Lp, CL, dx, _, rfl, upd_same, T.cl, T.people, (by show 1 < 1000; decide), ?_⟩
    rw [upd_upd]
    exact q
def spHasRow : Sp := fun vs H Q _ => ∃ (p : Int) (n k : Nat), vs = [.int p] ∧ PySr38.shape p = some (n, k) ∧ Q (.bl (decide (k = 1))) H
theorem shape_k {p : Int} {n k : Nat} (h : PySr38.shape p = some (n, k)) : k = 0 ∨ k = 1 := by
  rcases shape_cases h with h | h | h | h | h | h | h | h | h | h | h <;> omega
theorem cut_nat {ns : List Int} {a b : Nat} (hab : a ≤ b) (h : b ≤ ns.length) : cutV (iL ns) (some ((a : Nat) : Int)) (some ((b : Nat) : Int)) = iL ((ns.drop a).take (b - a)) := by
  unfold cutV
  rw [HT.sIx_nat, HT.sIx_nat, List.length_map, Nat.min_eq_left h, Nat.min_eq_left (show a ≤ ns.length by omega)]
  simp only [iL, List.map_take, List.map_drop]
theorem seq_if {tc : TT} {t u rest : TS} {D : Ends} {σ : L2.St} {H : Hp} (Pr : L2.St → Hp → Prop) (k : ∀ σ' H', Pr σ' H' → rest D σ' H') (h : (∀ σ' H', Pr σ' H' → rest D σ' H') → tSeq (tIfS tc t u) rest D σ H) : tSeq (tIfS tc t u) rest D σ H := h k
def spAnswers (K : PySem.W.Frag) : Sp := fun vs H Q _ => ∃ (a : Addr) (ns : List Int), vs = [.ref a] ∧ SqL K H a (ns.map V.int) ∧ PySr38.answers_asked ns = true ∧ ∀ (H' : Hp) (p : Addr), H' p = some (.lst ((PySr38.answers ns).map V.int)) → Q (.ref p) H'
theorem scAnswers : FnScope ["calls", "line", "given", "at", "behind", "plain", "row", "answer"] ["calls"] (defScope sAnswers) := ⟨rfl, rfl, rfl, by decide +kernel, rfl, by decide +kernel, by decide +kernel⟩
theorem pe_mk0 {X : Cx} {x : Str} {C : Addr} {k : Nat} {ps : List Str} {sp : Sp} {p pos : Pos} (M : MkCal X.prog X.w X.K X.mg X.base x C k ps sp) (hr : Room (k + 1) X.A) (hg : Gl X x) (hdb : (x == ("__debug__" : Str)) = false := by decide) : PE X (.Call (.Name x p) [] [] pos) (tMake C sp [] E0 tNil) := by
  obtain ⟨f, fd, hm, M, hb, F⟩ := M
  exact pe_make0 M F hr hg hm hb .nil pass0 hdb
theorem drop_get {ns r : List Int} {k : Nat} {p : Int} (h : ns.drop k = p :: r) : ns[k]? = some p ∧ r = ns.drop (k + 1) ∧ k < ns.length := by
  have h1 : ns[k]? = some p := by
    have := congrArg (fun l : List Int => l[0]?) h
    simpa using this
  refine ⟨h1, ?_, (List.getElem?_eq_some_iff.mp h1).1⟩
  have := congrArg (List.drop 1) h
  rw [List.drop_drop] at this
  simpa [Nat.add_comm] using this.symm
theorem ok_answers {f CL pl : Addr} {fd : FuncData} (F : Fun K "answers" "answers" sAnswers f fd) (G : Gs mg) (T : LT K CL) (LF : LineForm CL) (ML : MkCal P w K mg base "Line" CL 1 ["self"] (spLineInit CL)) (CH : Cal P w K mg base "has_row" 1 ["call"] spHasRow) (MA : MCal P w K mg base CL "answer" 7 ["self", "plain", "row"] (spAnswer LF))
    (PL : mg "PLAIN_LENGTHS" = some (.ref pl)) (HPL : ∀ (H : Hp) (p : Int) (n k : Nat), PySr38.shape p = some (n, k) → ∃ xs, SqT K H pl xs ∧ atI xs p = some (vI (n + 1))) (L0 : ∀ (H : Hp) (Lp dx : Addr), H Lp = some (.ins CL dx (lf .non .non)) → LF.at_ H Lp Sr38Neutral.start (fun b => b = Lp))
    (nm : ∀ rv pv, (lf rv pv).lookup ("answer" : Str) = none) : FnOk P w K mg base CX0 8 f fd ["calls"] (spAnswers K) := by
  refine F.ok scAnswers (fun vs H Q E h => ?_) (fun cdv A' outer s H vs Q E hr h => ?_)
  · obtain ⟨a, ns, rfl, _⟩ := h
    rfl
  · obtain ⟨a, ns, rfl, ha, hask, q⟩ := h
    have hr1 : Room 1 _ := hr.mono (by decide)
    have hr2 : Room 2 _ := hr.mono (by decide)
    have hr7 : Room 7 _ := hr.mono (by decide)
    refine ⟨_, pss_cons (ps_set (i := 1) scAnswers.nd rfl (Or.inl rfl) (pe_mk0 ML hr2 rfl))
      (pss_cons (ps_set (i := 2) scAnswers.nd rfl (Or.inl rfl) (pe_lst pa_nil))
      (pss_cons (ps_set (i := 3) scAnswers.nd rfl (Or.inl rfl) pe_int)
      (pss_cons (ps_while PassesOwn.never (pt_cmpR op_lt (L2.pv 3) (pe_callB call_len_seq (by rfl) G.len PySem.boot_len (pa_cons (L2.pv 0) pa_nil)) (nomark _))
        (pss_cons (ps_set (i := 4) scAnswers.nd rfl (Or.inl rfl) (pe_op op_add (L2.pv 3) (pe_ix ix_tup (pe_glob (v := .ref pl) rfl PL rfl) (pe_ix ix_list (L2.pv 0) (L2.pv 3) (fun _ _ => rfl)) (fun _ _ => rfl))))
        (pss_cons (ps_set (i := 5) scAnswers.nd rfl (Or.inl rfl) (pe_slice sl_list (L2.pv 0) (po_some (L2.pv 3)) (po_some (L2.pv 4))))
        (pss_cons (ps_set (i := 6) scAnswers.nd rfl (Or.inl rfl) (pe_lst pa_nil))
        (pss_cons (ps_if (pt_val (pe_cal CH hr1 rfl (pa_cons (pe_ix ix_list (L2.pv 5) pe_int (fun _ _ => rfl)) pa_nil)))
          (pss_cons (ps_set (i := 6) scAnswers.nd rfl (Or.inl rfl) (pe_slice sl_list (L2.pv 0) (po_some (pe_op op_add (L2.pv 4) pe_int)) (po_some (pe_op op_add (pe_op op_add (L2.pv 4) pe_int) (pe_ix ix_list (L2.pv 0) (L2.pv 4) (fun _ _ => rfl))))))
          (pss_one (ps_set (i := 4) scAnswers.nd rfl (Or.inl rfl) (pe_op op_add (pe_op op_add (L2.pv 4) pe_int) (pe_callB call_len_seq (by rfl) G.len PySem.boot_len (pa_cons (L2.pv 6) pa_nil)))))) pss_nil)
        (pss_cons (ps_set (i := 7) scAnswers.nd rfl (Or.inl rfl) (pe_mc MA T.cl hr7 (L2.pv 1) (pa_cons (L2.pv 5) (pa_cons (L2.pv 6) pa_nil))))
        (pss_cons (ps_expr (pe_bm PySem.F.plainAttrs_list PySem.F.slot_list_append PySem.F.type_list_append mt_append (L2.pv 2) (pa_cons (pe_callB call_len_seq (by rfl) G.len PySem.boot_len (pa_cons (L2.pv 7) pa_nil)) pa_nil)))
        (pss_cons (ps_expr (pe_bm PySem.F.plainAttrs_list PySem.F.slot_list_extend PySem.F.type_list_extend mt_extend (L2.pv 2) (pa_cons (L2.pv 7) pa_nil)))
        (pss_one (ps_set (i := 3) scAnswers.nd rfl (Or.inl rfl) (L2.pv 4)))))))))))
      (pss_one (ps_ret (L2.pv 2)))))), ?_⟩
    intro lp ld nlp nld nne
    have s0 : Same H (upd (upd H ld (.own lp)) lp (.ins CL ld [])) := fun b o e => by rw [upd_ne (ne_of_none e nlp), upd_ne (ne_of_none e nld)]; exact e
    refine ⟨lp, ld, rfl, upd_same, rfl, ?_⟩
    rw [upd_upd]
    have s1 : Same H (upd (upd H ld (.own lp)) lp (.ins CL ld (lf .non .non))) := fun b o e => by rw [upd_ne (ne_of_none e nlp), upd_ne (ne_of_none e nld)]; exact e
    generalize hH1 : upd (upd H ld (.own lp)) lp (.ins CL ld (lf .non .non)) = H1 at s1
    have hl1 : H1 lp = some (.ins CL ld (lf .non .non)) := by rw [← hH1]; exact upd_same
    refine ⟨Nat.zero_le _, fun gp ngp => ?_⟩
    have hgl : gp ≠ lp := fun e => by rw [e, hl1] at ngp; cases ngp
    have s2 : Same H (upd H1 gp (.lst [])) := s1.trans (same_upd ngp)
    have fgp : H gp = none := s1.free ngp
    obtain ⟨cs, L⟩ := Loop.start hask
    refine ⟨fun m σ H' => ∃ (k : Nat) (given : List Int) (s : S) (rest : List (List (List Int))) (O : Addr → Prop) (vb vp vr va : Option V), σ = [some (.ref a), some (.ref lp), some (.ref gp), some (vI k), vb, vp, vr, va] ∧ Loop ns k given s rest ∧ LF.at_ H' lp s O ∧ H' gp = some (.lst (iL given)) ∧
      (∀ b, O b → H b = none) ∧ ¬ O gp ∧ Same H H' ∧ m = ns.length - k, ⟨_, 0, [], Sr38Neutral.start, cs, (fun b => b = lp), none, none, none, none, rfl, L, L0 _ _ ld (by rw [upd_ne hgl.symm]; exact hl1), upd_same, fun b e => by rw [e]; exact nlp, hgl, s2, rfl⟩, ?_⟩
    rintro m σ H2 ⟨k, given, s, rest, O, vb, vp, vr, va, rfl, L, hat, hg, hO, hOg, sH, rfl⟩
    have ha2 : SqL K H2 a (iL ns) := sH.seq ha
    refine ⟨_, rfl, _, rfl, a, _, rfl, .inl ha2, _, _, rfl, rfl, _, rfl, ite2 (fun hc => ?_) (fun hc => ?_)⟩
    · have hk : k < ns.length := by
        have := of_decide_eq_true hc
        rw [List.length_map] at this
        omega
      obtain ⟨p, r, c, t, rest', y, hd, hcall, hask1, htry, rfl, hnext⟩ := L.turn hk
      have hsh : ∃ n kk, PySr38.shape p = some (n, kk) := by
        cases e : PySr38.shape p with
        | none => unfold PyFlat.call at hcall; dsimp only at hcall; rw [e] at hcall; cases hcall
        | some x => exact ⟨x.1, x.2, rfl⟩
      obtain ⟨n, kk, hsh⟩ := hsh
      obtain ⟨hp, hr', hk'⟩ := drop_get hd
      have hnr : n ≤ r.length := by
        rcases shape_k hsh with rfl | rfl
        · exact (call_plain hsh hcall).1
        · exact (call_row hsh hcall).1
      have hrl : r.length + (k + 1) = ns.length := by rw [hr', List.length_drop]; omega
      have hcut : cutV (iL ns) (some (k : Int)) (some ((k : Int) + ((n + 1 : Nat) : Int))) = iL (p :: r.take n) := by
        have e := cut_nat (ns := ns) (a := k) (b := k + (n + 1)) (by omega) (by omega)
        rw [hd, Nat.add_sub_cancel_left] at e
        exact e
      obtain ⟨xs, hxs, hxa⟩ := HPL H2 p n kk hsh
      refine ⟨fun σ' H' => ∃ m', m' < ns.length - k ∧ _, fun σ' H' z => z, ?_⟩
      refine ⟨_, rfl, _, rfl, _, rfl, a, _, _, _, rfl, rfl, ha2, atI_nat (j := k) (v := .int p) (by rw [List.getElem?_map, hp]; rfl), pl, xs, _, _, rfl, rfl, hxs, hxa, _, _, rfl, rfl, ?_⟩
      refine ⟨_, rfl, _, rfl, _, rfl, _, rfl, _, rfl, a, _, rfl, ha2, fun ap nap => ?_⟩
      rw [hcut]
      have s3 := same_upd (o := .lst (iL (p :: r.take n))) nap
      refine ⟨Nat.zero_le _, fun ar0 nar0 => ?_⟩
      have s4 := s3.trans (same_upd (o := .lst []) nar0)
      have nar0' : H2 ar0 = none := s3.free nar0
      dsimp only [gName]
      refine seq_if (fun σ' H' => ∃ (b' : Nat) (ar : Addr) (row : List Int), σ' = [some (.ref a), some (.ref lp), some (.ref gp), some (vI k), some (vI b'), some (.ref ap), some (.ref ar), va] ∧ Same H2 H' ∧ H2 ar = none ∧ H' ap = some (.lst (iL (p :: r.take n))) ∧ H' ar = some (.lst (iL row)) ∧
        ((PySr38.shape p = some (n, 0) ∧ row = [] ∧ asked1 [p :: r.take n] = true ∧ tried s [p :: r.take n] = some y) ∨ (PySr38.shape p = some (n, 1) ∧ asked1 [p :: r.take n, row] = true ∧ tried s [p :: r.take n, row] = some y)) ∧ b' ≤ ns.length ∧ ns.drop b' = t ∧ k < b') ?_ (fun J => ?_)
      · rintro σ' H3 ⟨b', ar, row, rfl, s3', nar, hap, har, hspec, hb', hdr, hkb⟩
        have hat3 := LF.on hat (fun b _ o e => s3' _ _ e)
        obtain ⟨dx3, rv3, pv3, hi3⟩ := LF.ins hat3
        refine ⟨_, rfl, lp, dx3, _, rfl, hi3, nm _ _, _, rfl, _, rfl, lp, ap, ar, s, O, p, r.take n, row, y, rfl, hat3, hap, har, fun z => LF.has hat _ z nap, fun z => LF.has hat _ z nar, ⟨n, hspec⟩, fun H4 O' ans hat4 hfr hO' nans hOa hans => ?_⟩
        have hg3 : H3 gp = some (.lst (iL given)) := s3' _ _ hg
        have hg4 : H4 gp = some (.lst (iL given)) := hfr _ _ hg3 hOg
        have hag : ans ≠ gp := fun e => by rw [e, hg3] at nans; cases nans
        have hO4 : ∀ b, O' b → H b = none := fun b hb => by
          rcases hO' b hb with z | z
          · exact hO b z
          · exact (sH.trans s3').free z
        have hOg4 : ¬ O' gp := fun z => by
          rcases hO' gp z with z | z
          · exact hOg z
          · rw [hg3] at z; cases z
        have L' := hnext b' hb' hdr
        have hlen := L'.len
        rw [List.length_append, List.length_cons] at hlen
        have hsz := sizeLine_eq
        refine ⟨_, rfl, .inl ⟨rfl, _, SqL.of hg4⟩, _, rfl, ans, _, rfl, .inl (SqL.of hans), gp, _, _, rfl, rfl, hg4, by rw [List.length_map]; omega, ?_⟩
        refine ⟨_, rfl, .inl ⟨rfl, _, SqL.of upd_same⟩, _, rfl, gp, ans, _, _, rfl, rfl, upd_same, by rw [upd_ne hag]; exact hans, by rw [List.length_append, List.length_map, List.length_map, List.length_singleton]; omega, ?_⟩
        rw [upd_upd]
        refine ⟨_, rfl, ns.length - b', by omega, b', _, y.1, rest', O', _, _, _, _, rfl, L', LF.on hat4 fun b hb o e => ?_, ?_, hO4, hOg4, fun b o e => ?_, rfl⟩
        · rw [upd_ne (fun z => hOg4 (by rw [← z]; exact hb))]; exact e
        · rw [upd_same, List.length_map]
          simp [iL]
        · rw [upd_ne (ne_of_none e fgp)]
          exact hfr _ _ (s3' _ _ (sH _ _ e)) fun z => by rw [hO b z] at e; cases e
      · have hap4 : upd (upd H2 ap (.lst (iL (p :: r.take n)))) ar0 (.lst []) ap = some (.lst (iL (p :: r.take n))) := by rw [upd_ne (ne_of_none upd_same nar0)]; exact upd_same
        generalize hH4 : upd (upd H2 ap (.lst (iL (p :: r.take n)))) ar0 (.lst []) = H4 at s4 hap4
        have har4 : H4 ar0 = some (.lst []) := by rw [← hH4]; exact upd_same
        have ha4 : SqL K H4 a (iL ns) := s4.seq ha2
        refine ⟨_, rfl, ap, _, _, _, rfl, rfl, SqL.of hap4, atI_nat (j := 0) rfl, p, n, kk, rfl, hsh, _, rfl, ite2 (fun h1 => ?_) (fun h1 => ?_)⟩
        · have h1' : kk = 1 := of_decide_eq_true h1
          subst h1'
          obtain ⟨_, qk, r2, hdr, hq2, rfl, rfl⟩ := call_row hsh hcall
          have hdb : ns.drop (k + (n + 1)) = (qk : Int) :: r2 := by
            rw [← hdr, hr', List.drop_drop]
            congr 1
            omega
          obtain ⟨hgb, hr2, hlb⟩ := drop_get hdb
          have hl2 : r2.length + (k + (n + 1) + 1) = ns.length := by rw [hr2, List.length_drop]; omega
          have hcut2 : cutV (iL ns) (some ((k : Int) + ((n + 1 : Nat) : Int) + 1)) (some ((k : Int) + ((n + 1 : Nat) : Int) + 1 + (qk : Int))) = iL (r2.take qk) := by
            have e := cut_nat (ns := ns) (a := k + (n + 1) + 1) (b := k + (n + 1) + 1 + qk) (by omega) (by omega)
            rw [← hr2, Nat.add_sub_cancel_left] at e
            exact e
          refine ⟨_, rfl, _, rfl, _, _, rfl, rfl, _, rfl, _, rfl, _, _, rfl, rfl, _, rfl, _, rfl, a, _, _, _, rfl, rfl, ha4, atI_nat (j := k + (n + 1)) (v := .int qk) (by rw [List.getElem?_map, hgb]; rfl), _, _, rfl, rfl, _, rfl, a, _, rfl, ha4, fun ar nar => ?_⟩
          rw [hcut2]
          have s5 := s4.trans (same_upd (o := .lst (iL (r2.take qk))) nar)
          refine ⟨_, rfl, _, _, rfl, rfl, _, rfl, ar, _, rfl, .inl (SqL.of upd_same), _, _, rfl, rfl, J _ _ ⟨k + (n + 1) + 1 + qk, ar, r2.take qk, ?_, s5, s4.free nar, by rw [upd_ne (ne_of_none hap4 nar)]; exact hap4, upd_same, .inr ⟨hsh, hask1, htry⟩, by omega, ?_, by omega⟩⟩
          · rw [List.length_map, List.length_take, Nat.min_eq_left hq2]
            rfl
          · rw [hr2, List.drop_drop]
        · have h0 : kk = 0 := by
            rcases shape_k hsh with e | e
            · exact e
            · exact absurd (decide_eq_true e) h1
          subst h0
          obtain ⟨_, rfl, rfl⟩ := call_plain hsh hcall
          refine J _ _ ⟨k + (n + 1), ar0, [], rfl, s4, nar0', hap4, har4, .inl ⟨hsh, rfl, hask1, htry⟩, by omega, ?_, by omega⟩
          rw [hr', List.drop_drop]
          congr 1
          omega
    · have hk : ¬ k < ns.length := fun z => hc (decide_eq_true (by rw [List.length_map]; omega))
      refine ⟨_, rfl, q _ gp ?_⟩
      rw [hg, L.done hk]
end
end Rv
end
section
set_option Elab.async false
set_option linter.all false
set_option maxRecDepth 100000
set_option maxHeartbeats 4000000
namespace Rv
open PySem PySem.Spec PyProof.Rows L2 RvM
open Sr38 (Rover Base)
open Sr38Neutral (S)
/-- what a people's end is in the heap -/
structure PeopleForm where
  at_ : Hp → Addr → Base → (Addr → Prop) → Prop
  on : ∀ {H H' : Hp} {p : Addr} {s : Base} {O : Addr → Prop}, at_ H p s O → (∀ b, O b → ∀ o, H b = some o → H' b = some o) → at_ H' p s O
  has : ∀ {H : Hp} {p : Addr} {s : Base} {O : Addr → Prop}, at_ H p s O → ∀ b, O b → H b ≠ none
/-- the line's two ends, none or started -/
def RovP (C : Addr) (H : Hp) (s : Option (Rover × List Nat)) (v : V) (O : Addr → Prop) : Prop := match s with
  | none => v = .non ∧ ∀ b, ¬ O b
  | some (r, g) => ∃ A : RA, v = .ref A.p ∧ RoverAt C H A r g ∧ WF r g ∧ ∀ b, O b ↔ Its A b
def PplP (PF : PeopleForm) (H : Hp) (s : Option Base) (v : V) (O : Addr → Prop) : Prop := match s with
  | none => v = .non ∧ ∀ b, ¬ O b
  | some b => ∃ p, v = .ref p ∧ PF.at_ H p b O ∧ WFB b
structure LineAt (C CL : Addr) (PF : PeopleForm) (H : Hp) (Lp : Addr) (s : S) (O : Addr → Prop) (dx : Addr) (rv pv : V) (Or Op : Addr → Prop) : Prop where
  ob : H Lp = some (.ins CL dx (lf rv pv))
  rov : RovP C H s.1 rv Or
  ppl : PplP PF H s.2 pv Op
  own : ∀ b, O b ↔ b = Lp ∨ Or b ∨ Op b
  dj : ∀ b, Or b → ¬ Op b
  nr : ¬ Or Lp
  np : ¬ Op Lp
theorem RovP.on {C : Addr} {H H' : Hp} {s : Option (Rover × List Nat)} {v : V} {O : Addr → Prop} (R : RovP C H s v O) (k : ∀ b, O b → ∀ o, H b = some o → H' b = some o) : RovP C H' s v O := by
  cases s with
  | none => exact R
  | some x =>
    obtain ⟨A, e, R, W, hO⟩ := R
    exact ⟨A, e, R.on fun b hb => k b ((hO b).mpr hb), W, hO⟩
theorem RovP.has {C : Addr} {H : Hp} {s : Option (Rover × List Nat)} {v : V} {O : Addr → Prop} (R : RovP C H s v O) (b : Addr) (hb : O b) : H b ≠ none := by
  cases s with
  | none => exact absurd hb (R.2 b)
  | some x =>
    obtain ⟨A, e, R, W, hO⟩ := R
    exact fun z => its_new R z b ((hO b).mp hb) rfl
theorem PplP.on {PF : PeopleForm} {H H' : Hp} {s : Option Base} {v : V} {O : Addr → Prop} (R : PplP PF H s v O) (k : ∀ b, O b → ∀ o, H b = some o → H' b = some o) : PplP PF H' s v O := by
  cases s with
  | none => exact R
  | some x =>
    obtain ⟨A, e, R, W⟩ := R
    exact ⟨A, e, PF.on R k, W⟩
theorem PplP.has {PF : PeopleForm} {H : Hp} {s : Option Base} {v : V} {O : Addr → Prop} (R : PplP PF H s v O) (b : Addr) (hb : O b) : H b ≠ none := by
  cases s with
  | none => exact absurd hb (R.2 b)
  | some x =>
    obtain ⟨A, e, R, W⟩ := R
    exact PF.has R b hb
section
variable {C CL : Addr} {PF : PeopleForm} {H : Hp} {Lp : Addr} {s : S} {O : Addr → Prop} {dx : Addr} {rv pv : V} {Or Op : Addr → Prop}
theorem LineAt.on {H' : Hp} (L : LineAt C CL PF H Lp s O dx rv pv Or Op) (k : ∀ b, O b → ∀ o, H b = some o → H' b = some o) : LineAt C CL PF H' Lp s O dx rv pv Or Op :=
  ⟨k _ ((L.own _).mpr (.inl rfl)) _ L.ob, L.rov.on fun b hb => k b ((L.own b).mpr (.inr (.inl hb))), L.ppl.on fun b hb => k b ((L.own b).mpr (.inr (.inr hb))), L.own, L.dj, L.nr, L.np⟩
theorem LineAt.has (L : LineAt C CL PF H Lp s O dx rv pv Or Op) (b : Addr) (hb : O b) : H b ≠ none := by
  rcases (L.own b).mp hb with rfl | h | h
  · rw [L.ob]; intro z; cases z
  · exact L.rov.has b h
  · exact L.ppl.has b h
end
def lineForm (C CL : Addr) (PF : PeopleForm) : LineForm CL where
  at_ := fun H Lp s O => ∃ dx rv pv Or Op, LineAt C CL PF H Lp s O dx rv pv Or Op
  on := fun ⟨dx, rv, pv, Or, Op, L⟩ k => ⟨dx, rv, pv, Or, Op, L.on k⟩
  has := fun ⟨dx, rv, pv, Or, Op, L⟩ => L.has
  ins := fun ⟨dx, rv, pv, Or, Op, L⟩ => ⟨dx, rv, pv, L.ob⟩
theorem line_start (C CL : Addr) (PF : PeopleForm) (H : Hp) (Lp dx : Addr) (h : H Lp = some (.ins CL dx (lf .non .non))) : (lineForm C CL PF).at_ H Lp Sr38Neutral.start (fun b => b = Lp) :=
  ⟨dx, .non, .non, fun _ => False, fun _ => False, h, ⟨rfl, fun _ z => z⟩, ⟨rfl, fun _ z => z⟩, fun b => ⟨.inl, fun z => z.elim id (fun z => z.elim False.elim False.elim)⟩, fun _ z => z.elim, fun z => z, fun z => z⟩
section
variable {C CL : Addr} {PF : PeopleForm} {H : Hp} {Lp : Addr} {s : S} {O : Addr → Prop} {dx : Addr} {rv pv : V} {Or Op : Addr → Prop}
/-- nothing of the line is changed -/
theorem LineAt.new {Q : VK} {out : List Int} (L : LineAt C CL PF H Lp s O dx rv pv Or Op) (q : LDone (lineForm C CL PF) H Lp O Q (s, out)) : NewList H Q (iL out) := fun H' p sm hp e =>
  q H' O p ⟨dx, rv, pv, Or, Op, L.on fun b _ o z => sm b o z⟩ (fun b o z _ => sm b o z) (fun b z => .inl z) hp (fun z => L.has p z hp) e
/-- a call on the rover -/
theorem LineAt.rover {r : Rover} {g : List Nat} (L : LineAt C CL PF H Lp s O dx rv pv Or Op) (hs : s.1 = some (r, g)) : ∃ A : RA, rv = .ref A.p ∧ RoverAt C H A r g ∧ WF r g ∧
    ∀ (Q : VK) (r' : Rover) (out : List Int), WF r' g → LDone (lineForm C CL PF) H Lp O Q ((some (r', g), s.2), out) → Done C H A g Q r' out := by
  have hr := L.rov
  rw [hs] at hr
  obtain ⟨A, e, R, W, hO⟩ := hr
  refine ⟨A, e, R, W, fun Q r' out W' q H' p R' fr hp ep => ?_⟩
  have fo : ∀ b, b ∈ foot A → O b := fun b hb => (L.own b).mpr (.inr (.inl ((hO b).mpr (.inl hb))))
  refine q H' O p ⟨dx, rv, pv, Or, Op, fr _ _ L.ob fun z => L.nr ((hO _).mpr (.inl z)), ⟨A, e, R', W', hO⟩, L.ppl.on fun b hb o z => fr _ _ z fun y => L.dj b ((hO b).mpr (.inl y)) hb, L.own, L.dj, L.nr, L.np⟩ (fun b o z hb => fr b o z fun y => hb (fo b y)) (fun b z => .inl z) hp (fun z => L.has p z hp) ep
/-- a call on the people's end: its own addresses may grow -/
theorem LineAt.people {b : Base} (L : LineAt C CL PF H Lp s O dx rv pv Or Op) (hs : s.2 = some b) : ∃ ap : Addr, pv = .ref ap ∧ PF.at_ H ap b Op ∧ WFB b ∧
    ∀ (Q : VK) (b' : Base) (out : List Int), WFB b' → LDone (lineForm C CL PF) H Lp O Q ((s.1, some b'), out) →
      ∀ (H' : Hp) (p : Addr), PF.at_ H' ap b' Op → (∀ c o, H c = some o → ¬ Op c → H' c = some o) → H p = none → H' p = some (.lst (iL out)) → Q (.ref p) H' := by
  have hr := L.ppl
  rw [hs] at hr
  obtain ⟨ap, e, R, W⟩ := hr
  refine ⟨ap, e, R, W, fun Q b' out W' q H' p R' fr hp ep => ?_⟩
  refine q H' O p ⟨dx, rv, pv, Or, Op, fr _ _ L.ob L.np, L.rov.on fun c hc o z => fr _ _ z (L.dj c hc), ⟨ap, e, R', W'⟩, L.own, L.dj, L.nr, L.np⟩ (fun c o z hc => fr c o z fun y => hc ((L.own c).mpr (.inr (.inr y)))) (fun c z => .inl z) hp (fun z => L.has p z hp) ep
/-- a rover is started -/
theorem LineAt.startRover {Q : VK} {r : Rover} {g : List Nat} {out : List Int} (L : LineAt C CL PF H Lp s O dx rv pv Or Op) (W : WF r g) (q : LDone (lineForm C CL PF) H Lp O Q ((some (r, g), s.2), out)) (H' : Hp) (A : RA) (p : Addr) (R : RoverAt C H' A r g) (hL : H' Lp = some (.ins CL dx (lf (.ref A.p) pv)))
    (sx : Sx Lp H H') (new : ∀ b, Its A b → H b = none) (hp : H p = none) (hpi : ¬ Its A p) (ep : H' p = some (.lst (iL out))) : Q (.ref p) H' := by
  refine q H' (fun b => b = Lp ∨ Its A b ∨ Op b) p ⟨dx, _, pv, Its A, Op, hL, ⟨A, rfl, R, W, fun _ => Iff.rfl⟩, L.ppl.on fun b hb o z => sx b o z fun y => L.np (by rw [← y]; exact hb), fun b => Iff.rfl, fun b hb z => L.ppl.has b z (new b hb), fun z => ?_, L.np⟩ (fun b o z hb => sx b o z fun y => hb ((L.own b).mpr (.inl y))) (fun b z => ?_) hp ?_ ep
  · have := new _ z
    rw [L.ob] at this
    cases this
  · rcases z with z | z | z
    · exact .inl ((L.own b).mpr (.inl z))
    · exact .inr (new b z)
    · exact .inl ((L.own b).mpr (.inr (.inr z)))
  · rintro (z | z | z)
    · rw [z, L.ob] at hp; cases hp
    · exact hpi z
    · exact L.ppl.has p z hp
/-- a people's end is started -/
theorem LineAt.startPeople {Q : VK} {b : Base} {out : List Int} (L : LineAt C CL PF H Lp s O dx rv pv Or Op) (W : WFB b) (q : LDone (lineForm C CL PF) H Lp O Q ((s.1, some b), out)) (H' : Hp) (ap : Addr) (O' : Addr → Prop) (p : Addr) (R : PF.at_ H' ap b O') (hL : H' Lp = some (.ins CL dx (lf rv (.ref ap))))
    (sx : Sx Lp H H') (new : ∀ b, O' b → H b = none) (hp : H p = none) (hpi : ¬ O' p) (ep : H' p = some (.lst (iL out))) : Q (.ref p) H' := by
  refine q H' (fun b => b = Lp ∨ Or b ∨ O' b) p ⟨dx, rv, _, Or, O', hL, L.rov.on fun b hb o z => sx b o z fun y => L.nr (by rw [← y]; exact hb), ⟨ap, rfl, R, W⟩, fun b => Iff.rfl, fun b hb z => L.rov.has b hb (new b z), L.nr, fun z => ?_⟩ (fun b o z hb => sx b o z fun y => hb ((L.own b).mpr (.inl y))) (fun b z => ?_) hp ?_ ep
  · have := new _ z
    rw [L.ob] at this
    cases this
  · rcases z with z | z | z
    · exact .inl ((L.own b).mpr (.inl z))
    · exact .inl ((L.own b).mpr (.inr (.inl z)))
    · exact .inr (new b z)
  · rintro (z | z | z)
    · rw [z, L.ob] at hp; cases hp
    · exact L.rov.has p z hp
    · exact hpi z
end
end Rv
end
section
set_option Elab.async false
set_option linter.all false
set_option maxRecDepth 100000
set_option maxHeartbeats 4000000
namespace Rv
open PySem PySem.Spec PyProof.Rows L2 RvM
open Sr38 (Rover Base)
open Sr38Neutral (S tried)
/-! The rover's calls by the line: what each method is asked there. -/
section
variable {C CL : Addr} {PF : PeopleForm} {H : Hp} {Lp : Addr} {s : S} {O : Addr → Prop} {dx : Addr} {rv pv : V} {Or Op : Addr → Prop} {Q : VK} {E : XK} {y : S × List Int}
theorem iL_iNs (l : List Nat) : iL (iNs l) = nL l := (nL_iN l).symm
theorem br_start {ar : Addr} {x yy home room : Nat} {g : List Nat} (L : LineAt C CL PF H Lp s O dx rv pv Or Op) (har : H ar = some (.lst (iL (iNs g)))) (hgl : g.length = 256) (hgk : ∀ z ∈ g, Sr38.okCost z = true) (ht : tried s [[0, (x : Int), (yy : Int), (home : Int), (room : Int)], iNs g] = some y) (q : LDone (lineForm C CL PF) H Lp O Q y) :
    spStartRover C CL [.ref Lp, vI x, vI yy, vI home, vI room, .ref ar] H Q E := by
  have e : tried s [[0, (x : Int), (yy : Int), (home : Int), (room : Int)], iNs g] = if Sr38.okStart x yy home room = true then some ((some (Sr38.startR x yy home room, Sr38Neutral.nats (iNs g)), s.2), [0]) else some (s, [-22]) := rfl
  rw [e, nats_iNs] at ht
  refine ⟨Lp, dx, ar, rv, pv, x, yy, home, room, g, rfl, L.ob, by rw [har, iL_iNs], hgl, fun h => ?_, fun h H' A p R hL sx new hp hpi ep => ?_⟩
  · rw [if_neg (by rw [h]; exact Bool.false_ne_true)] at ht
    cases ht
    exact L.new q
  · rw [if_pos h] at ht
    cases ht
    exact L.startRover (startR_wf h hgl hgk) q H' A p R hL sx new hp hpi ep
theorem br_step (L : LineAt C CL PF H Lp s O dx rv pv Or Op) (ht : tried s [[1]] = some y) (q : LDone (lineForm C CL PF) H Lp O Q y) : ∃ (A : RA) (r : Rover), rv = .ref A.p ∧ (∃ dr, H A.p = some (.ins C dr (rf A r))) ∧ spStep C [.ref A.p] H Q E := by
  obtain ⟨r, g, evs, r', ans, hs, hrec, rfl⟩ := byRover_some (c := .step) ht
  obtain ⟨A, e, R, W, hd⟩ := L.rover hs
  exact ⟨A, r, e, R.ob, A, r, g, evs, r', ans, rfl, R, W, hrec, fun W' => hd Q r' _ W' q⟩
theorem br_hear {ar : Addr} {b : List Nat} (L : LineAt C CL PF H Lp s O dx rv pv Or Op) (har : H ar = some (.lst (iL (iNs b)))) (hb : ∀ z ∈ b, z ≤ 255) (h8 : Sr38Neutral.eight (iNs b) = tookB b) (ht : tried s [[2], iNs b] = some y) (q : LDone (lineForm C CL PF) H Lp O Q y) :
    ∃ (A : RA) (r : Rover), rv = .ref A.p ∧ (∃ dr, H A.p = some (.ins C dr (rf A r))) ∧ spHear C [.ref A.p, .ref ar] H Q E := by
  obtain ⟨r, g, evs, r', ans, hs, hrec, rfl⟩ := byRover_some (c := .heard (Sr38Neutral.eight (iNs b))) ht
  rw [h8] at hrec
  obtain ⟨A, e, R, W, hd⟩ := L.rover hs
  exact ⟨A, r, e, R.ob, A, r, g, ar, b, evs, r', ans, rfl, R, W, by rw [har, iL_iNs], hb, hrec, hd Q r' _ (heard_wf W hb hrec) q⟩
theorem br_tick (L : LineAt C CL PF H Lp s O dx rv pv Or Op) (ht : tried s [[3]] = some y) (q : LDone (lineForm C CL PF) H Lp O Q y) : ∃ (A : RA) (r : Rover), rv = .ref A.p ∧ (∃ dr, H A.p = some (.ins C dr (rf A r))) ∧ spTick C [.ref A.p] H Q E := by
  obtain ⟨r, g, evs, r', ans, hs, hrec, rfl⟩ := byRover_some (c := .tick) ht
  obtain ⟨A, e, R, W, hd⟩ := L.rover hs
  cases hrec
  exact ⟨A, r, e, R.ob, A, r, g, rfl, R, W, hd Q _ _ { W with } q⟩
theorem br_state (L : LineAt C CL PF H Lp s O dx rv pv Or Op) (ht : tried s [[4]] = some y) (q : LDone (lineForm C CL PF) H Lp O Q y) : ∃ (A : RA) (r : Rover), rv = .ref A.p ∧ (∃ dr, H A.p = some (.ins C dr (rf A r))) ∧ spState C [.ref A.p] H Q E := by
  obtain ⟨r, g, evs, r', ans, hs, hrec, rfl⟩ := byRover_some (c := .state) ht
  obtain ⟨A, e, R, W, hd⟩ := L.rover hs
  cases hrec
  refine ⟨A, r, e, R.ob, A, r, g, rfl, R, W, ?_⟩
  have es : ((some (r, g), s.2) : S) = s := by rw [← hs]
  rw [es] at q
  have := L.new q
  simpa [Sr38Neutral.given, Sr38Neutral.ints, iN] using this
end
end Rv
end
section
set_option Elab.async false
set_option linter.all false
set_option maxRecDepth 100000
set_option maxHeartbeats 4000000
namespace Rv
open PySem PySem.Spec PyProof.Rows L2 RvM
/-- how many numbers a call has ahead of its row, by the tuple of the text -/
theorem plain_lengths {K : PySem.W.Frag} {pl : Addr} {od : Option Addr} {n : Nat} {sl : Array (Option Value)} {t0 t1 t2 t3 t4 t5 t6 t7 t8 t9 t10 : Tok}
    (hk : K.lookup pl = some ⟨.type "tuple", od, .seq #[.int 5 t0, .int 1 t1, .int 1 t2, .int 1 t3, .int 1 t4, .int 3 t5, .int 2 t6, .int 1 t7, .int 1 t8, .int 1 t9, .int 1 t10] n, sl⟩) (H : Hp) (p : Int) (m k : Nat) (h : PySr38.shape p = some (m, k)) : ∃ xs, SqT K H pl xs ∧ atI xs p = some (vI (m + 1)) := by
  refine ⟨nL [5, 1, 1, 1, 1, 3, 2, 1, 1, 1, 1], .inr ⟨_, _, n, hk, rfl, rfl, line_small (by show 11 ≤ 100000; decide), .cons ⟨_, rfl⟩ (.cons ⟨_, rfl⟩ (.cons ⟨_, rfl⟩ (.cons ⟨_, rfl⟩ (.cons ⟨_, rfl⟩ (.cons ⟨_, rfl⟩ (.cons ⟨_, rfl⟩ (.cons ⟨_, rfl⟩ (.cons ⟨_, rfl⟩ (.cons ⟨_, rfl⟩ (.cons ⟨_, rfl⟩ .nil))))))))))⟩, ?_⟩
  rcases shape_cases h with ⟨rfl, rfl, rfl⟩ | ⟨rfl, rfl, rfl⟩ | ⟨rfl, rfl, rfl⟩ | ⟨rfl, rfl, rfl⟩ | ⟨rfl, rfl, rfl⟩ | ⟨rfl, rfl, rfl⟩ | ⟨rfl, rfl, rfl⟩ | ⟨rfl, rfl, rfl⟩ | ⟨rfl, rfl, rfl⟩ | ⟨rfl, rfl, rfl⟩ | ⟨rfl, rfl, rfl⟩ <;> exact rfl
end Rv
end
section
set_option Elab.async false
set_option linter.all false
set_option maxRecDepth 100000
set_option maxHeartbeats 4000000
namespace Rv
open PySem PySem.Spec PyProof.Rows L2 RvM
abbrev sIsCost : Stmt := top 7
abbrev sIsSeen : Stmt := top 31
abbrev sIsAns : Stmt := top 32
section
variable {P : Program} {w : World} {K : PySem.W.Frag} {mg : Str → Option Value} {base : Heap}
structure Gl4 (mg : Str → Option Value) : Prop where
  HIGHEST_COST : ∃ t, mg "HIGHEST_COST" = some (Value.int 200 t)
  MOST_CELLS : ∃ t, mg "MOST_CELLS" = some (Value.int 256 t)
  MOST_NUMBER : ∃ t, mg "MOST_NUMBER" = some (Value.int 65535 t)
  NOT_ANSWERED : ∃ t, mg "NOT_ANSWERED" = some (Value.int (-16) t)
  NO_NUMBER_LEFT : ∃ t, mg "NO_NUMBER_LEFT" = some (Value.int (-28) t)
  BS_START : ∃ t, mg "BS_START" = some (Value.int 5 t)
  BS_AVOID : ∃ t, mg "BS_AVOID" = some (Value.int 6 t)
  BS_HEARD : ∃ t, mg "BS_HEARD" = some (Value.int 7 t)
  BS_TICK : ∃ t, mg "BS_TICK" = some (Value.int 8 t)
  BS_MAP : ∃ t, mg "BS_MAP" = some (Value.int 9 t)
  BS_STATE : ∃ t, mg "BS_STATE" = some (Value.int 10 t)
def spIsCost : Sp := fun vs H Q _ => ∃ c : Nat, vs = [vI c] ∧ Q (.bl (Sr38.okCost c)) H
theorem scIsCost : FnScope ["cost"] ["cost"] (defScope sIsCost) := ⟨rfl, rfl, rfl, by decide +kernel, rfl, by decide +kernel, by decide +kernel⟩
theorem okCost_no {c : Nat} (h : ¬ ((1 ≤ c ∧ c ≤ 200) ∨ c = 255)) : Sr38.okCost c = false := by
  rw [← Bool.not_eq_true]
  intro q
  unfold Sr38.okCost at q
  simp only [Bool.or_eq_true, Bool.and_eq_true, decide_eq_true_eq, beq_iff_eq] at q
  exact h q
theorem okCost_yes {c : Nat} (h : (1 ≤ c ∧ c ≤ 200) ∨ c = 255) : Sr38.okCost c = true := by
  unfold Sr38.okCost
  simp only [Bool.or_eq_true, Bool.and_eq_true, decide_eq_true_eq, beq_iff_eq]
  exact h
theorem ok_isCost {f : Addr} {fd : FuncData} (F : Fun K "is_cost" "is_cost" sIsCost f fd) (G : Gs mg) (G4 : Gl4 mg) : FnOk P w K mg base CX0 1 f fd ["cost"] spIsCost := by
  refine F.ok scIsCost (fun vs H Q E h => ?_) (fun cdv A outer s H vs Q E hr h => ?_)
  · obtain ⟨c, rfl, _⟩ := h
    rfl
  · obtain ⟨c, rfl, q⟩ := h
    refine ⟨_, pss_one (ps_ret (pe_or (pe_chain op_le op_le pe_int (pv 0) (pe_gi rfl G4.HIGHEST_COST)) (pe_one (pe_cmpR op_eq (pv 0) (pe_gi rfl G.CLOSED) (nomark _))))), ?_⟩
    have last : ¬ (1 ≤ c ∧ c ≤ 200) → Q (.bl (decide (V.int (c : Int) = V.int 255))) H := fun hn => by
      by_cases e : c = 255
      · rw [okCost_yes (.inr e)] at q
        rw [decide_eq_true (by rw [e]; rfl)]
        exact q
      · rw [okCost_no (fun z => z.elim hn e)] at q
        rw [decide_eq_false (fun z => e (by have := V.int.inj z; omega))]
        exact q
    refine ⟨_, rfl, _, _, rfl, rfl, _, rfl, ite2 (fun h1 => ?_) (fun h1 => ?_)⟩
    · have h1' := of_decide_eq_true h1
      refine ⟨_, _, rfl, rfl, _, rfl, ite2 (fun h2 => ?_) (fun h2 => ?_)⟩
      · have h2' := of_decide_eq_true h2
        rw [okCost_yes (.inl ⟨by omega, by omega⟩)] at q
        exact q
      · have h2' : ¬ (c : Int) ≤ 200 := fun z => h2 (decide_eq_true z)
        exact ⟨_, rfl, rfl, last (by omega)⟩
    · have h1' : ¬ (1 : Int) ≤ (c : Int) := fun z => h1 (decide_eq_true z)
      refine ⟨_, rfl, iteF ?_⟩
      exact ⟨_, rfl, rfl, last (by omega)⟩
def spIsSeen (K : PySem.W.Frag) : Sp := fun vs H Q _ => ∃ (a : Addr) (b : List Nat) (n : Nat), vs = [.ref a, vI n] ∧ SqL K H a (nL b) ∧ Q (.bl (isSeen n b)) H
theorem scIsSeen : FnScope ["m", "size"] ["m", "size"] (defScope sIsSeen) := ⟨rfl, rfl, rfl, by decide +kernel, rfl, by decide +kernel, by decide +kernel⟩
theorem ok_isSeen {f : Addr} {fd : FuncData} (F : Fun K "is_seen" "is_seen" sIsSeen f fd) (G : Gs mg) (CF : Cal P w K mg base "is_framed" 2 ["m", "kind"] (spFramed K)) (CC : Cal P w K mg base "is_cost" 1 ["cost"] spIsCost) : FnOk P w K mg base CX0 3 f fd ["m", "size"] (spIsSeen K) := by
  refine F.ok scIsSeen (fun vs H Q E h => ?_) (fun cdv A outer s H vs Q E hr h => ?_)
  · obtain ⟨a, b, k, rfl, _⟩ := h
    rfl
  · obtain ⟨a, b, n, rfl, hs, q⟩ := h
    have hr1 : Room 1 _ := hr.mono (by decide)
    refine ⟨_, pss_one (ps_ret (pe_and (pe_cal CF hr rfl (pa_cons (pv 0) (pa_cons (pe_gi rfl G.SEEN) pa_nil))) (pe_and (pe_cmpR op_lt (pe_ix ix_list (pv 0) pe_int (fun _ _ => rfl)) (pv 1) (nomark _)) (pe_one (pe_cal CC hr1 rfl (pa_cons (pe_ix ix_list (pv 0) pe_int (fun _ _ => rfl)) pa_nil)))))), ?_⟩
    unfold isSeen at q
    refine ⟨_, rfl, a, b, 3, rfl, hs, _, rfl, ite2 (fun hc => ?_) (fun hc => ?_)⟩
    · have h8 := framed_len hc
      rw [hc] at q
      refine ⟨_, rfl, a, _, _, _, rfl, rfl, hs, nums_at (i := 4) (by omega), _, rfl, _, _, rfl, rfl, _, rfl, ite2 (fun hc4 => ?_) (fun hc4 => ?_)⟩
      · have h4 := of_decide_eq_true hc4
        rw [decide_eq_true (show b.getD 4 0 < n by omega)] at q
        refine ⟨_, rfl, a, _, _, _, rfl, rfl, hs, nums_at (i := 5) (by omega), b.getD 5 0, rfl, ?_⟩
        simpa using q
      · have h4 : ¬ b.getD 4 0 < n := fun z => hc4 (decide_eq_true (by omega))
        rw [decide_eq_false h4] at q
        simpa using q
    · rw [Bool.not_eq_true] at hc
      rw [hc] at q
      simpa using q
def spIsAns (K : PySem.W.Frag) : Sp := fun vs H Q _ => ∃ (a : Addr) (b : List Nat), vs = [.ref a] ∧ SqL K H a (nL b) ∧ Q (.bl (isAns b)) H
theorem scIsAns : FnScope ["m"] ["m"] (defScope sIsAns) := ⟨rfl, rfl, rfl, by decide +kernel, rfl, by decide +kernel, by decide +kernel⟩
theorem ok_isAns {f : Addr} {fd : FuncData} (F : Fun K "is_answer" "is_answer" sIsAns f fd) (G : Gs mg) (CF : Cal P w K mg base "is_framed" 2 ["m", "kind"] (spFramed K)) : FnOk P w K mg base CX0 3 f fd ["m"] (spIsAns K) := by
  refine F.ok scIsAns (fun vs H Q E h => ?_) (fun cdv A outer s H vs Q E hr h => ?_)
  · obtain ⟨a, b, rfl, _⟩ := h
    rfl
  · obtain ⟨a, b, rfl, hs, q⟩ := h
    refine ⟨_, pss_one (ps_ret (pe_and (pe_cal CF hr rfl (pa_cons (pv 0) (pa_cons (pe_gi rfl G.ANSWER) pa_nil))) (pe_and (pe_or (pe_cmpR op_eq (pe_ix ix_list (pv 0) pe_int (fun _ _ => rfl)) (pe_gi rfl G.NO) (nomark _)) (pe_one (pe_cmpR op_eq (pe_ix ix_list (pv 0) pe_int (fun _ _ => rfl)) (pe_gi rfl G.YES) (nomark _))))
      (pe_one (pe_cmpR op_eq (pe_ix ix_list (pv 0) pe_int (fun _ _ => rfl)) pe_int (nomark _)))))), ?_⟩
    unfold isAns at q
    refine ⟨_, rfl, a, b, 4, rfl, hs, _, rfl, ite2 (fun hc => ?_) (fun hc => ?_)⟩
    · have h8 := framed_len hc
      rw [hc] at q
      have two : b.getD 4 0 ≤ 1 → tOp rEq (tOp (rIxL K) (tVar 0) (tC (V.int 5))) (tC (V.int 0)) [some (.ref a)] H Q := fun hle => by
        rw [decide_eq_true hle] at q
        refine ⟨_, rfl, a, _, _, _, rfl, rfl, hs, nums_at (i := 5) (by omega), rfl, ?_⟩
        rw [beq_nat]
        simpa using q
      refine ⟨_, rfl, a, _, _, _, rfl, rfl, hs, nums_at (i := 4) (by omega), rfl, _, rfl, ite2 (fun h0 => ?_) (fun h0 => ?_)⟩
      · refine ⟨_, rfl, iteT ?_⟩
        exact two (by have := d_eq h0; omega)
      · refine ⟨_, rfl, a, _, _, _, rfl, rfl, hs, nums_at (i := 4) (by omega), rfl, _, rfl, ite2 (fun h1 => ?_) (fun h1 => ?_)⟩
        · exact two (by have := d_eq h1; omega)
        · have e0 := d_ne h0
          have e1 := d_ne h1
          rw [decide_eq_false (show ¬ b.getD 4 0 ≤ 1 by omega)] at q
          simpa using q
    · rw [Bool.not_eq_true] at hc
      rw [hc] at q
      simpa using q
theorem scHasRow : FnScope ["call"] ["call"] (defScope sHasRow) := ⟨rfl, rfl, rfl, by decide +kernel, rfl, by decide +kernel, by decide +kernel⟩
theorem ok_hasRow {f : Addr} {fd : FuncData} (F : Fun K "has_row" "has_row" sHasRow f fd) (G3 : Gl3 mg) (G4 : Gl4 mg) : FnOk P w K mg base CX0 1 f fd ["call"] spHasRow := by
  refine F.ok scHasRow (fun vs H Q E h => ?_) (fun cdv A outer s H vs Q E hr h => ?_)
  · obtain ⟨p, n, k, rfl, _⟩ := h
    rfl
  · obtain ⟨p, n, k, rfl, hsh, q⟩ := h
    have hk : k = 1 ↔ (p = 0 ∨ p = 2 ∨ p = 7) := by
      rcases shape_cases hsh with h | h | h | h | h | h | h | h | h | h | h <;> omega
    refine ⟨_, pss_one (ps_ret (pe_or (pe_cmpR op_eq (pv 0) (pe_gi rfl G3.RV_START) (nomark _)) (pe_or (pe_cmpR op_eq (pv 0) (pe_gi rfl G3.RV_HEARD) (nomark _)) (pe_one (pe_cmpR op_eq (pv 0) (pe_gi rfl G4.BS_HEARD) (nomark _)))))), ?_⟩
    refine ⟨_, rfl, rfl, _, rfl, ite2 (fun h1 => ?_) (fun h1 => ?_)⟩
    · rw [decide_eq_true (hk.mpr (.inl (d_eq h1)))] at q
      exact q
    · have e1 := d_ne h1
      refine ⟨_, rfl, rfl, _, rfl, ite2 (fun h2 => ?_) (fun h2 => ?_)⟩
      · rw [decide_eq_true (hk.mpr (.inr (.inl (d_eq h2))))] at q
        exact q
      · have e2 := d_ne h2
        refine ⟨_, rfl, rfl, ?_⟩
        show Q (.bl (decide (V.int p = V.int 7))) H
        by_cases e : p = 7
        · rw [decide_eq_true (hk.mpr (.inr (.inr e)))] at q
          rw [decide_eq_true (by rw [e])]
          exact q
        · rw [decide_eq_false (fun z => by rcases hk.mp z with z | z | z <;> contradiction)] at q
          rw [decide_eq_false (fun z => e (V.int.inj z))]
          exact q
end
end Rv
end
section
set_option Elab.async false
set_option linter.all false
set_option maxRecDepth 100000
set_option maxHeartbeats 4000000
namespace Rv
open PySem PySem.Spec PyProof.Rows L2 RvM
open Sr38 (Base bAct)
abbrev sPInit : Stmt := inClass (top 38) 0
abbrev sWaits : Stmt := inClass (top 38) 1
abbrev sAvoid : Stmt := inClass (top 38) 2
abbrev sSendOut : Stmt := inClass (top 38) 3
abbrev sPHear : Stmt := inClass (top 38) 4
abbrev sHearSeen : Stmt := inClass (top 38) 5
abbrev sHearAns : Stmt := inClass (top 38) 6
abbrev sPTick : Stmt := inClass (top 38) 7
abbrev sWhole : Stmt := inClass (top 38) 8
abbrev sPState : Stmt := inClass (top 38) 9
def ansV : Option Bool → V
  | none => .non
  | some y => vI (if y then 1 else 0)
def pf (ac : Addr) (b : Base) : List (Str × V) := [("size", vI b.n), ("costs", .ref ac), ("told", vI b.told), ("last_number", vI b.order), ("last_cell", vI b.cell), ("last_answer", ansV b.ans), ("ticks", vI b.ticks)]
section
variable (ac : Addr) (b : Base)
theorem pf_size : (pf ac b).lookup ("size" : Str) = some (vI b.n) := by kernel_rfl
theorem pf_costs : (pf ac b).lookup ("costs" : Str) = some (.ref ac) := by kernel_rfl
theorem pf_told : (pf ac b).lookup ("told" : Str) = some (vI b.told) := by kernel_rfl
theorem pf_number : (pf ac b).lookup ("last_number" : Str) = some (vI b.order) := by kernel_rfl
theorem pf_cell : (pf ac b).lookup ("last_cell" : Str) = some (vI b.cell) := by kernel_rfl
theorem pf_answer : (pf ac b).lookup ("last_answer" : Str) = some (ansV b.ans) := by kernel_rfl
theorem pf_ticks : (pf ac b).lookup ("ticks" : Str) = some (vI b.ticks) := by kernel_rfl
theorem pf_putTold (d : Nat) : putF "told" (vI d) (pf ac b) = pf ac { b with told := d } := by kernel_rfl
theorem pf_putNumber (d : Nat) : putF "last_number" (vI d) (pf ac b) = pf ac { b with order := d } := by kernel_rfl
theorem pf_putCell (d : Nat) : putF "last_cell" (vI d) (pf ac b) = pf ac { b with cell := d } := by kernel_rfl
theorem pf_putAns (o : Option Bool) : putF "last_answer" (ansV o) (pf ac b) = pf ac { b with ans := o } := by kernel_rfl
theorem pf_putTicks (d : Nat) : putF "ticks" (vI d) (pf ac b) = pf ac { b with ticks := d } := by kernel_rfl
theorem pf_waits : (pf ac b).lookup ("waits" : Str) = none := by kernel_rfl
theorem pf_sendOut : (pf ac b).lookup ("send_keep_out" : Str) = none := by kernel_rfl
theorem pf_hearSeen : (pf ac b).lookup ("hear_seen" : Str) = none := by kernel_rfl
theorem pf_hearAns : (pf ac b).lookup ("hear_answer" : Str) = none := by kernel_rfl
end
structure PplAt (C : Addr) (H : Hp) (p ac : Addr) (b : Base) : Prop where
  ob : ∃ dx, H p = some (.ins C dx (pf ac b))
  hc : H ac = some (.lst (nL (b.map.take b.n)))
structure PT_ (K : PySem.W.Frag) (C : Addr) : Prop where
  cl : Cls K C
  size : NoAttr K C "size"
  costs : NoAttr K C "costs"
  told : NoAttr K C "told"
  last_number : NoAttr K C "last_number"
  last_cell : NoAttr K C "last_cell"
  last_answer : NoAttr K C "last_answer"
  ticks : NoAttr K C "ticks"
def FB (p ac : Addr) (H H' : Hp) : Prop := ∀ c o, H c = some o → c ≠ p → c ≠ ac → H' c = some o
theorem FB.trans {p ac : Addr} {H H1 H2 : Hp} (a : FB p ac H H1) (b : FB p ac H1 H2) : FB p ac H H2 := fun c o e h1 h2 => b c o (a c o e h1 h2) h1 h2
theorem FB.of {p ac : Addr} {H H1 : Hp} (a : Same H H1) : FB p ac H H1 := fun c o e _ _ => a c o e
section
variable {C p ac : Addr} {H H' : Hp} {b b' : Base}
theorem PplAt.same (R : PplAt C H p ac b) (s : Same H H') : PplAt C H' p ac b := ⟨let ⟨dx, h⟩ := R.ob; ⟨dx, s _ _ h⟩, s _ _ R.hc⟩
theorem PplAt.ne (R : PplAt C H p ac b) : p ≠ ac := let ⟨_, h⟩ := R.ob; lstNe h R.hc
theorem FB.free (f : FB p ac H H') (R : PplAt C H' p ac b) {q : Addr} (h : H' q = none) : H q = none := by
  cases e : H q with
  | none => rfl
  | some o =>
    obtain ⟨dx, ho⟩ := R.ob
    by_cases h1 : q = p
    · rw [h1, ho] at h; cases h
    · by_cases h2 : q = ac
      · rw [h2, R.hc] at h; cases h
      · rw [f q o e h1 h2] at h; cases h
theorem PplAt.setF {dx : Addr} {fs : List (Str × V)} (R : PplAt C H p ac b) (e : fs = pf ac b') (hm : b'.map.take b'.n = b.map.take b.n) : PplAt C (upd H p (.ins C dx fs)) p ac b' ∧ FB p ac H (upd H p (.ins C dx fs)) :=
  ⟨⟨⟨dx, by rw [upd_same, e]⟩, by rw [upd_ne R.ne.symm, hm]; exact R.hc⟩, fun c o z h1 _ => by rw [upd_ne h1]; exact z⟩
end
/-- a call on a people's end is done -/
def DoneB (C : Addr) (H : Hp) (p ac : Addr) (Q : VK) (b' : Base) (out : List Int) : Prop := ∀ (H' : Hp) (r : Addr), PplAt C H' p ac b' → FB p ac H H' → H r = none → H' r = some (.lst (iL out)) → Q (.ref r) H'
/-- what's answered -/
def outB (b : Base) (c : Sr38.Call) : List Int := Sr38Neutral.given (bAct b c).2.1 ++ (bAct b c).2.2.flatMap Sr38Neutral.told
theorem asks_eq {b : Base} (h : b.order ≤ 65535) : b.asks.flatMap Sr38Neutral.told = iN (3 :: msg 1 b.order b.cell 0) := by
  unfold Sr38.Base.asks
  have e : b.order / 256 % 256 = b.order / 256 := Nat.mod_eq_of_lt (by omega)
  simp [Sr38Neutral.told, Sr38Neutral.ints, Sr38.bytesOf, Sr38.two, iN, msg, e]
theorem had_eq {k : Nat} (h : k ≤ 65535) : ([.bSend (Sr38.bytesOf (.had k))] : List Sr38.Ev).flatMap Sr38Neutral.told = iN (3 :: msg 2 k 0 0) := by
  have e : k / 256 % 256 = k / 256 := Nat.mod_eq_of_lt (by omega)
  simp [Sr38Neutral.told, Sr38Neutral.ints, Sr38.bytesOf, Sr38.two, iN, msg, e]
/-- self.f is read -/
theorem prd {K : PySem.W.Frag} {C p ac : Addr} {H : Hp} {b : Base} {f : Str} {v : V} {σ : L2.St} {Q : VK} (T : PT_ K C) (R : PplAt C H p ac b) (hσ : σ[0]? = some (some (.ref p))) (hn : NoAttr K C f) (hl : (pf ac b).lookup f = some v) (q : Q v H) : tFld K (tVar 0) f σ H Q := by
  obtain ⟨dx, h⟩ := R.ob
  exact ⟨_, hσ, p, C, dx, _, v, rfl, h, T.cl, hn, hl, q⟩
theorem one_line : (1 : Nat) ≤ sizeLine := by decide
section
variable {P : Program} {w : World} {K : PySem.W.Frag} {mg : Str → Option Value} {base : Heap}
theorem costs0 {x y : Nat} (h : x * y ≤ 256) : (Sr38.startB x y).map.take (Sr38.startB x y).n = List.replicate (x * y) 0 := by
  show (List.replicate 256 0).take (x * y) = _
  rw [List.take_replicate, Nat.min_eq_left h]
def spPInit (C : Addr) : Sp := fun vs H Q _ => ∃ (p dx : Addr) (x y : Nat), vs = [.ref p, vI x, vI y] ∧ H p = some (.ins C dx []) ∧ (Sr37.okSize x && Sr37.okSize y) = true ∧
  ∀ (H' : Hp) (ac : Addr), PplAt C H' p ac (Sr38.startB x y) → Sx p H H' → H ac = none → Q .non H'
theorem scPInit : FnScope ["self", "width", "height"] ["self", "width", "height"] (defScope sPInit) := ⟨rfl, rfl, rfl, by decide +kernel, rfl, by decide +kernel, by decide +kernel⟩
theorem ok_pInit {f C : Addr} {fd : FuncData} (F : Fun K "__init__" "People.__init__" sPInit f fd) (T : PT_ K C) : FnOk P w K mg base CX0 1 f fd ["self", "width", "height"] (spPInit C) := by
  refine F.ok scPInit (fun vs H Q E h => ?_) (fun cdv A' outer s H vs Q E hr h => ?_)
  · obtain ⟨p, dx, x, y, rfl, _⟩ := h
    rfl
  · obtain ⟨p, dx, x, y, rfl, hp, hok, q⟩ := h
    have hb : x ≤ 16 ∧ y ≤ 16 := by
      unfold Sr37.okSize at hok
      simp only [Bool.and_eq_true, decide_eq_true_eq] at hok
      exact ⟨hok.1.2, hok.2.2⟩
    have n256 := mul_small hb.1 hb.2
    refine ⟨_, pss_cons (ps_fld (L2.pv 0) (pe_op op_mul (L2.pv 1) (L2.pv 2)) rfl)
      (pss_cons (ps_fld (L2.pv 0) (pe_op op_rep (pe_lst (pa_cons pe_int pa_nil)) (pe_fld (L2.pv 0) rfl)) rfl)
      (pss_cons (ps_fld (L2.pv 0) pe_int rfl) (pss_cons (ps_fld (L2.pv 0) pe_int rfl) (pss_cons (ps_fld (L2.pv 0) pe_int rfl) (pss_cons (ps_fld (L2.pv 0) pe_non rfl) (pss_one (ps_fld (L2.pv 0) pe_int rfl))))))), ?_⟩
    refine ⟨_, rfl, _, rfl, _, _, rfl, rfl, .inl ⟨by omega, by omega⟩, stF T.cl T.size rfl (by show 0 < 1000; decide) hp fun H1 x1 h1 => ?_⟩
    refine ⟨one_line, fun l1 hl1 => ?_⟩
    have h1' := same_upd (o := .lst [V.int 0]) hl1 _ _ h1
    refine ⟨_, rfl, p, C, dx, _, _, rfl, h1', T.cl, T.size, (by kernel_rfl : _ = some (V.int ((x : Int) * (y : Int)))), l1, _, _, rfl, rfl, upd_same, (by show -(2 ^ 63) ≤ ((x * y : Nat) : Int); omega), (by show ((x * y : Nat) : Int) < 2 ^ 63; omega), ?_, fun aC hC => ?_⟩
    · show 1 * ((x * y : Nat) : Int).toNat ≤ sizeLine
      rw [Int.toNat_natCast]
      exact line_small (by omega)
    have eC : (List.replicate ((x : Int) * (y : Int)).toNat ([V.int 0] : List V)).flatten = nL (List.replicate (x * y) 0) := by
      rw [show ((x : Int) * (y : Int)).toNat = x * y from Int.toNat_natCast (x * y)]
      exact rep_nL _
    refine stF T.cl T.costs rfl (lt1000 (by kernel_rfl)) (same_upd hC _ _ h1') fun H2 x2 h2 => ?_
    have pC : aC ≠ p := (ne_of_none h1' hC).symm
    have hC2 : H2 aC = some (.lst (nL (List.replicate (x * y) 0))) := by rw [← eC]; exact x2 _ _ upd_same pC
    have c2 : Sx p H H2 := x1.trans ((Sx.of ((same_upd hl1).trans (same_upd hC))).trans x2)
    refine stF T.cl T.told rfl (lt1000 (by kernel_rfl)) h2 fun H3 x3 h3 => ?_
    refine stF T.cl T.last_number rfl (lt1000 (by kernel_rfl)) h3 fun H4 x4 h4 => ?_
    refine stF T.cl T.last_cell rfl (lt1000 (by kernel_rfl)) h4 fun H5 x5 h5 => ?_
    refine stF T.cl T.last_answer rfl (lt1000 (by kernel_rfl)) h5 fun H6 x6 h6 => ?_
    refine stF T.cl T.ticks rfl (lt1000 (by kernel_rfl)) h6 fun H7 x7 h7 => ?_
    have d7 : Sx p H2 H7 := (((x3.trans x4).trans x5).trans x6).trans x7
    refine q H7 aC ⟨⟨dx, ?_⟩, ?_⟩ (c2.trans d7) (x1.free pC ((same_upd hl1).free hC))
    · rw [h7]
      kernel_rfl
    · rw [costs0 n256]
      exact d7 _ _ hC2 pC
def spWaits (C : Addr) : Sp := fun vs H Q _ => ∃ (p ac : Addr) (b : Base), vs = [.ref p] ∧ PplAt C H p ac b ∧ Q (.bl b.open_) H
theorem scWaits : FnScope ["self"] ["self"] (defScope sWaits) := ⟨rfl, rfl, rfl, by decide +kernel, rfl, by decide +kernel, by decide +kernel⟩
theorem ok_waits {f C : Addr} {fd : FuncData} (F : Fun K "waits" "People.waits" sWaits f fd) (T : PT_ K C) : FnOk P w K mg base CX0 1 f fd ["self"] (spWaits C) := by
  refine F.ok scWaits (fun vs H Q E h => ?_) (fun cdv A' outer s H vs Q E hr h => ?_)
  · obtain ⟨p, ac, b, rfl, _⟩ := h
    rfl
  · obtain ⟨p, ac, b, rfl, R, q⟩ := h
    obtain ⟨dx, ho⟩ := R.ob
    refine ⟨_, pss_one (ps_ret (pe_and (pe_cmpR op_gt (pe_fld (L2.pv 0) rfl) pe_int (nomark _)) (pe_one (pe_cmpR op_isN (pe_fld (L2.pv 0) rfl) pe_non (nomark _))))), ?_⟩
    unfold Sr38.Base.open_ at q
    refine ⟨_, rfl, p, C, dx, _, _, rfl, ho, T.cl, T.last_number, pf_number _ _, _, _, rfl, rfl, _, rfl, ite2 (fun h1 => ?_) (fun h1 => ?_)⟩
    · have h1' := of_decide_eq_true h1
      rw [show (b.order != 0) = true from bne_iff_ne.mpr (by omega)] at q
      refine ⟨_, rfl, p, C, dx, _, _, rfl, ho, T.cl, T.last_answer, pf_answer _ _, rfl, ?_⟩
      cases e : b.ans with
      | none => rw [e] at q; exact q
      | some y => rw [e] at q; exact q
    · have h1' : ¬ (0 : Int) < (b.order : Int) := fun z => h1 (decide_eq_true z)
      rw [show (b.order != 0) = false from by simp; omega] at q
      exact q
def spSendOut (C : Addr) : Sp := fun vs H Q _ => ∃ (p ac : Addr) (b : Base), vs = [.ref p] ∧ PplAt C H p ac b ∧ NewList H Q (nL (3 :: msg 1 b.order b.cell 0))
theorem scSendOut : FnScope ["self"] ["self"] (defScope sSendOut) := ⟨rfl, rfl, rfl, by decide +kernel, rfl, by decide +kernel, by decide +kernel⟩
theorem ok_sendOut {f C : Addr} {fd : FuncData} (F : Fun K "send_keep_out" "People.send_keep_out" sSendOut f fd) (G : Gs mg) (T : PT_ K C) (CS : CSend P w K mg base) : FnOk P w K mg base CX0 3 f fd ["self"] (spSendOut C) := by
  refine F.ok scSendOut (fun vs H Q E h => ?_) (fun cdv A' outer s H vs Q E hr h => ?_)
  · obtain ⟨p, ac, b, rfl, _⟩ := h
    rfl
  · obtain ⟨p, ac, b, rfl, R, q⟩ := h
    obtain ⟨dx, ho⟩ := R.ob
    refine ⟨_, pss_one (ps_ret (pe_cal CS hr rfl (pa_cons (pe_gi rfl G.KEEP_OUT) (pa_cons (pe_fld (L2.pv 0) rfl) (pa_cons (pe_fld (L2.pv 0) rfl) (pa_cons pe_int pa_nil)))))), ?_⟩
    exact ⟨_, rfl, p, C, dx, _, _, rfl, ho, T.cl, T.last_number, pf_number _ _, _, rfl, p, C, dx, _, _, rfl, ho, T.cl, T.last_cell, pf_cell _ _, 1, b.order, b.cell, 0, rfl, q⟩
end
end Rv
end
section
set_option Elab.async false
set_option linter.all false
set_option maxRecDepth 100000
set_option maxHeartbeats 4000000
namespace Rv
open PySem PySem.Spec PyProof.Rows L2 RvM
open Sr38 (Base bAct)
section
variable {P : Program} {w : World} {K : PySem.W.Frag} {mg : Str → Option Value} {base : Heap}
/-- what each call of a people's end is asked -/
def PDone (C : Addr) (H : Hp) (p ac : Addr) (b : Base) (Q : VK) (c : Sr38.Call) : Prop := PplAt C H p ac b ∧ WFB b ∧ DoneB C H p ac Q (bAct b c).1 (outB b c)
theorem DoneB.new {C : Addr} {H : Hp} {p ac : Addr} {Q : VK} {b : Base} {out : List Int} (q : DoneB C H p ac Q b out) (R : PplAt C H p ac b) : NewList H Q (iL out) := fun H' r s hr e => q H' r (R.same s) (FB.of s) hr e
/-- behind a change of fields: a new list is the answer -/
theorem DoneB.fresh {C : Addr} {H H1 : Hp} {p ac : Addr} {Q : VK} {b : Base} {out : List Int} {xs : List V} (q : DoneB C H p ac Q b out) (R : PplAt C H1 p ac b) (fr : FB p ac H H1) (e : xs = iL out) : ∀ r, H1 r = none → Q (.ref r) (upd H1 r (.lst xs)) := fun r hr =>
  q _ r (R.same (same_upd hr)) (fr.trans (FB.of (same_upd hr))) (fr.free R hr) (by rw [upd_same, e])
/-- [x] + what a call hands back -/
theorem DoneB.cat {C : Addr} {H H1 H2 : Hp} {p ac l r : Addr} {Q : VK} {b : Base} {out : List Int} {x : V} {ys : List V} (q : DoneB C H p ac Q b out) (R : PplAt C H1 p ac b) (fr : FB p ac H H1) (hl : H1 l = none) (s2 : Same (upd H1 l (.lst [x])) H2) (hr : H2 r = some (.lst ys)) (hy : ys.length ≤ 99999) (e : x :: ys = iL out) :
    rCat (.ref l) (.ref r) H2 Q := by
  have s1 := (same_upd (o := .lst [x]) hl).trans s2
  refine ⟨l, r, _, _, rfl, rfl, s2 _ _ upd_same, hr, line_small (by show 1 + ys.length ≤ 100000; omega), fun z hz => ?_⟩
  have s3 := s1.trans (same_upd (o := .lst ([x] ++ ys)) hz)
  exact q _ z (R.same s3) (fr.trans (FB.of s3)) (fr.free R (s1.free hz)) (by rw [upd_same]; exact congrArg (fun l => some (HO.lst l)) e)
def spPTick (C : Addr) : Sp := fun vs H Q _ => ∃ (p ac : Addr) (b : Base), vs = [.ref p] ∧ PDone C H p ac b Q .bTick
theorem scPTick : FnScope ["self"] ["self"] (defScope sPTick) := ⟨rfl, rfl, rfl, by decide +kernel, rfl, by decide +kernel, by decide +kernel⟩
theorem ok_pTick {f C : Addr} {fd : FuncData} (F : Fun K "tick" "People.tick" sPTick f fd) (G : Gs mg) (T : PT_ K C) (MW : MCal P w K mg base C "waits" 1 ["self"] (spWaits C)) (MS : MCal P w K mg base C "send_keep_out" 3 ["self"] (spSendOut C)) : FnOk P w K mg base CX0 4 f fd ["self"] (spPTick C) := by
  refine F.ok scPTick (fun vs H Q E h => ?_) (fun cdv A' outer s H vs Q E hr h => ?_)
  · obtain ⟨p, ac, b, rfl, _⟩ := h
    rfl
  · obtain ⟨p, ac, b, rfl, R, W, q⟩ := h
    obtain ⟨dx, ho⟩ := R.ob
    have hr1 : Room 1 _ := hr.mono (by decide)
    refine ⟨_, pss_cons (ps_fld (L2.pv 0) (pe_op op_add (pe_fld (L2.pv 0) rfl) pe_int) rfl) (pss_cons (ps_if (PW.pt (pw_or (pt_cmpR op_ne (pe_op op_mod (pe_fld (L2.pv 0) rfl) (pe_gi rfl G.TICKS_APART)) pe_int (nomark _)) (pw_or1 (pt_not (pt_val (pe_mc0 MW T.cl hr1 (L2.pv 0))))))) (pss_one (ps_ret (pe_lst (pa_cons pe_int pa_nil)))) pss_nil)
      (pss_one (ps_ret (pe_op op_cat (pe_lst (pa_cons pe_int pa_nil)) (pe_mc0 MS T.cl hr (L2.pv 0)))))), ?_⟩
    refine ⟨_, rfl, p, C, dx, _, _, rfl, ho, T.cl, T.ticks, pf_ticks _ _, _, _, rfl, rfl, _, rfl, p, C, dx, _, rfl, ho, T.cl, T.ticks, (by show 7 < 1000; decide), ?_⟩
    obtain ⟨R1, fr1⟩ := R.setF (dx := dx) (pf_putTicks ac b (b.ticks + 1)) rfl
    have e1 : outB b .bTick = 0 :: (if (b.ticks + 1) % 5 = 0 ∧ b.open_ = true then b.asks else []).flatMap Sr38Neutral.told := rfl
    have e2 : (bAct b .bTick).1 = { b with ticks := b.ticks + 1 } := rfl
    rw [e1, e2] at q
    generalize hH1 : upd H p (HO.ins C dx (putF "ticks" (vI (b.ticks + 1)) (pf ac b))) = H1 at R1 fr1
    have go : ∀ {X : Hp → Prop}, X H1 → X (upd H p (HO.ins C dx (putF "ticks" (V.int ((b.ticks : Int) + 1)) (pf ac b)))) := fun x => by rw [← hH1] at x; exact x
    refine go (X := fun Z => tSeq _ _ _ _ Z) ?_
    have no : ¬ ((b.ticks + 1) % 5 = 0 ∧ b.open_ = true) → ∀ r, H1 r = none → Q (.ref r) (upd H1 r (.lst [V.int 0])) := fun hn => by
      rw [if_neg hn] at q
      exact q.fresh R1 fr1 rfl
    refine opI (opI (prd T R1 rfl T.ticks (pf_ticks _ _) ?_))
    refine ⟨_, _, rfl, rfl, (by show (0 : Int) < 5; decide), rfl, _, rfl, ite2 (fun hc => iteT ?_) (fun hc => ?_)⟩
    · have hm := n_ne hc
      exact ⟨one_line, no fun z => hm (by show ((b.ticks + 1 : Nat) : Int) % 5 = 0; omega)⟩
    · have hm : ((b.ticks + 1 : Nat) : Int) % 5 = 0 := n_eq hc
      obtain ⟨dx1, ho1⟩ := R1.ob
      refine ⟨_, rfl, p, dx1, _, rfl, ho1, pf_waits _ _, p, ac, _, rfl, R1, _, rfl, ite2 (fun hc2 => ?_) (fun hc2 => ?_)⟩
      · refine ⟨one_line, no fun z => ?_⟩
        have : (!b.open_) = true := hc2
        rw [z.2] at this
        cases this
      · have ho2 : b.open_ = true := by
          cases e : b.open_ with
          | true => rfl
          | false => exact absurd (show (!b.open_) = true by rw [e]; rfl) hc2
        rw [if_pos ⟨by omega, ho2⟩, asks_eq W.od] at q
        refine ⟨one_line, fun l hl => ?_⟩
        have R2 := R1.same (same_upd (o := .lst [V.int 0]) hl)
        obtain ⟨dx2, ho2⟩ := R2.ob
        refine ⟨_, rfl, p, dx2, _, rfl, ho2, pf_sendOut _ _, p, ac, _, rfl, R2, fun H3 r s3 hr3 e3 => ?_⟩
        exact q.cat R1 fr1 hl s3 e3 (by show 9 ≤ 99999; decide) (by rw [nL_iN]; rfl)
def spAvoid (C : Addr) : Sp := fun vs H Q _ => ∃ (p ac : Addr) (b : Base) (c : Nat), vs = [.ref p, vI c] ∧ PDone C H p ac b Q (.avoid c)
theorem scAvoid : FnScope ["self", "cell"] ["self", "cell"] (defScope sAvoid) := ⟨rfl, rfl, rfl, by decide +kernel, rfl, by decide +kernel, by decide +kernel⟩
theorem ok_avoid {f C : Addr} {fd : FuncData} (F : Fun K "avoid" "People.avoid" sAvoid f fd) (G2 : Gl2 mg) (G4 : Gl4 mg) (T : PT_ K C) (MW : MCal P w K mg base C "waits" 1 ["self"] (spWaits C)) (MS : MCal P w K mg base C "send_keep_out" 3 ["self"] (spSendOut C)) : FnOk P w K mg base CX0 4 f fd ["self", "cell"] (spAvoid C) := by
  refine F.ok scAvoid (fun vs H Q E h => ?_) (fun cdv A' outer s H vs Q E hr h => ?_)
  · obtain ⟨p, ac, b, c, rfl, _⟩ := h
    rfl
  · obtain ⟨p, ac, b, c, rfl, R, W, q⟩ := h
    obtain ⟨dx, ho⟩ := R.ob
    have hr1 : Room 1 _ := hr.mono (by decide)
    refine ⟨_, pss_cons (ps_if (pt_cmpR op_ge (L2.pv 1) (pe_fld (L2.pv 0) rfl) (nomark _)) (pss_one (ps_ret (pe_lst (pa_cons (pe_gi rfl G2.BAD_VALUE) pa_nil)))) pss_nil)
      (pss_cons (ps_if (pt_val (pe_mc0 MW T.cl hr1 (L2.pv 0))) (pss_one (ps_ret (pe_lst (pa_cons (pe_gi rfl G4.NOT_ANSWERED) pa_nil)))) pss_nil)
      (pss_cons (ps_if (pt_cmpR op_eq (pe_fld (L2.pv 0) rfl) (pe_gi rfl G4.MOST_NUMBER) (nomark _)) (pss_one (ps_ret (pe_lst (pa_cons (pe_gi rfl G4.NO_NUMBER_LEFT) pa_nil)))) pss_nil)
      (pss_cons (ps_fld (L2.pv 0) (pe_op op_add (pe_fld (L2.pv 0) rfl) pe_int) rfl) (pss_cons (ps_fld (L2.pv 0) (L2.pv 1) rfl) (pss_cons (ps_fld (L2.pv 0) pe_non rfl)
      (pss_one (ps_ret (pe_op op_cat (pe_lst (pa_cons (pe_fld (L2.pv 0) rfl) pa_nil)) (pe_mc0 MS T.cl hr (L2.pv 0)))))))))), ?_⟩
    unfold outB bAct at q
    dsimp only at q
    refine ⟨_, rfl, _, rfl, p, C, dx, _, _, rfl, ho, T.cl, T.size, pf_size _ _, _, _, rfl, rfl, _, rfl, ite2 (fun h1 => ?_) (fun h1 => ?_)⟩
    · have h1' : (b.n : Int) ≤ (c : Int) := of_decide_eq_true h1
      rw [if_pos (show b.n ≤ c by omega)] at q
      exact ⟨one_line, fun r hr => q.new R _ r (same_upd hr) hr upd_same⟩
    have h1' : ¬ (b.n : Int) ≤ (c : Int) := fun z => h1 (decide_eq_true z)
    rw [if_neg (show ¬ b.n ≤ c by omega)] at q
    refine ⟨_, rfl, p, dx, _, rfl, ho, pf_waits _ _, p, ac, b, rfl, R, _, rfl, ite2 (fun h2 => ?_) (fun h2 => ?_)⟩
    · rw [if_pos h2] at q
      exact ⟨one_line, fun r hr => q.new R _ r (same_upd hr) hr upd_same⟩
    rw [if_neg h2] at q
    have hod := W.od
    refine ⟨_, rfl, p, C, dx, _, _, rfl, ho, T.cl, T.last_number, pf_number _ _, rfl, _, rfl, ite2 (fun h3 => ?_) (fun h3 => ?_)⟩
    · have h3' := d_eq h3
      rw [if_pos (show 65535 ≤ b.order by omega)] at q
      exact ⟨one_line, fun r hr => q.new R _ r (same_upd hr) hr upd_same⟩
    have h3' := d_ne h3
    rw [if_neg (show ¬ 65535 ≤ b.order by omega)] at q
    refine ⟨_, rfl, p, C, dx, _, _, rfl, ho, T.cl, T.last_number, pf_number _ _, _, _, rfl, rfl, _, rfl, p, C, dx, _, rfl, ho, T.cl, T.last_number, (by show 7 < 1000; decide), ?_⟩
    obtain ⟨R1, fr1⟩ := R.setF (dx := dx) (pf_putNumber ac b (b.order + 1)) rfl
    generalize hH1 : upd H p (HO.ins C dx (putF "last_number" (vI (b.order + 1)) (pf ac b))) = H1 at R1 fr1
    have go : ∀ {X : Hp → Prop}, X H1 → X (upd H p (HO.ins C dx (putF "last_number" (V.int ((b.order : Int) + 1)) (pf ac b)))) := fun x => by rw [← hH1] at x; exact x
    refine go (X := fun Z => tSeq _ _ _ _ Z) ?_
    obtain ⟨dx1, ho1⟩ := R1.ob
    refine ⟨_, rfl, _, rfl, p, C, dx1, _, rfl, ho1, T.cl, T.last_cell, (by show 7 < 1000; decide), ?_⟩
    obtain ⟨R2, fr2⟩ := R1.setF (dx := dx1) (pf_putCell ac { b with order := b.order + 1 } c) rfl
    obtain ⟨dx2, ho2⟩ := R2.ob
    refine ⟨_, rfl, p, C, dx2, _, rfl, ho2, T.cl, T.last_answer, (by show 7 < 1000; decide), ?_⟩
    obtain ⟨R3, fr3⟩ := R2.setF (dx := dx2) (pf_putAns ac { b with order := b.order + 1, cell := c } none) rfl
    have fr : FB p ac H _ := (fr1.trans fr2).trans fr3
    obtain ⟨dx3, ho3⟩ := R3.ob
    refine ⟨_, rfl, p, C, dx3, _, _, rfl, ho3, T.cl, T.last_number, pf_number _ _, one_line, fun l hl => ?_⟩
    have R4 := R3.same (same_upd (o := .lst [vI (b.order + 1)]) hl)
    obtain ⟨dx4, ho4⟩ := R4.ob
    refine ⟨_, rfl, p, dx4, _, rfl, ho4, pf_sendOut _ _, p, ac, _, rfl, R4, fun H5 r s5 hr5 e5 => ?_⟩
    have ea := asks_eq (b := ({ b with order := b.order + 1, cell := c, ans := none } : Base)) (by show b.order + 1 ≤ 65535; omega)
    rw [ea] at q
    exact q.cat R3 fr hl s5 e5 (by show 9 ≤ 99999; decide) (by rw [nL_iN]; rfl)
def spHearAns (C : Addr) : Sp := fun vs H Q _ => ∃ (p ac : Addr) (b : Base) (k y : Nat), vs = [.ref p, vI k, vI y] ∧ y ≤ 1 ∧ PplAt C H p ac b ∧
  ∀ H', PplAt C H' p ac (if k = b.order ∧ b.ans = none then { b with ans := some (y == 1) } else b) → FB p ac H H' → Q .non H'
theorem scHearAns : FnScope ["self", "number", "said"] ["self", "number", "said"] (defScope sHearAns) := ⟨rfl, rfl, rfl, by decide +kernel, rfl, by decide +kernel, by decide +kernel⟩
theorem ansV_none {o : Option Bool} : decide (ansV o = V.non) = o.isNone := by cases o <;> rfl
theorem ok_hearAns {f C : Addr} {fd : FuncData} (F : Fun K "hear_answer" "People.hear_answer" sHearAns f fd) (T : PT_ K C) : FnOk P w K mg base CX0 1 f fd ["self", "number", "said"] (spHearAns C) := by
  refine F.ok scHearAns (fun vs H Q E h => ?_) (fun cdv A' outer s H vs Q E hr h => ?_)
  · obtain ⟨p, ac, b, k, y, rfl, _⟩ := h
    rfl
  · obtain ⟨p, ac, b, k, y, rfl, hy, R, q⟩ := h
    obtain ⟨dx, ho⟩ := R.ob
    refine ⟨_, pss_one (ps_if (PW.pt (pw_and (pt_cmpR op_eq (L2.pv 1) (pe_fld (L2.pv 0) rfl) (nomark _)) (pw_and1 (pt_cmpR op_isN (pe_fld (L2.pv 0) rfl) pe_non (nomark _))))) (pss_one (ps_fld (L2.pv 0) (L2.pv 2) rfl)) pss_nil), ?_⟩
    refine ⟨_, rfl, _, rfl, p, C, dx, _, _, rfl, ho, T.cl, T.last_number, pf_number _ _, rfl, _, rfl, ite2 (fun h1 => ?_) (fun h1 => iteF ?_)⟩
    · have h1' := d_eq h1
      refine ⟨_, rfl, p, C, dx, _, _, rfl, ho, T.cl, T.last_answer, pf_answer _ _, rfl, _, rfl, ite2 (fun h2 => ?_) (fun h2 => ?_)⟩
      · rw [ansV_none, Option.isNone_iff_eq_none] at h2
        rw [if_pos ⟨by omega, h2⟩] at q
        refine ⟨_, rfl, _, rfl, p, C, dx, _, rfl, ho, T.cl, T.last_answer, (by show 7 < 1000; decide), ?_⟩
        have e : putF "last_answer" (vI y) (pf ac b) = pf ac { b with ans := some (y == 1) } := by
          have : vI y = ansV (some (y == 1)) := by
            have : y = 0 ∨ y = 1 := by omega
            rcases this with rfl | rfl <;> rfl
          rw [this]
          exact pf_putAns ac b _
        obtain ⟨R1, fr1⟩ := R.setF (dx := dx) e rfl
        exact q _ R1 fr1
      · rw [ansV_none] at h2
        rw [if_neg (fun z => h2 (by rw [z.2]; rfl))] at q
        exact q _ R (fun c o e _ _ => e)
    · have h1' := d_ne h1
      rw [if_neg (fun z => h1' (by rw [z.1]))] at q
      exact q _ R (fun c o e _ _ => e)
def spHearSeen (C : Addr) : Sp := fun vs H Q _ => ∃ (p ac : Addr) (b : Base) (k c x : Nat), vs = [.ref p, vI k, vI c, vI x] ∧ PplAt C H p ac b ∧ WFB b ∧ c < b.n ∧
  DoneB C H p ac Q (if k = b.told + 1 then { b with map := b.map.set c x, told := k } else b) (if k ≤ b.told + 1 then iN (3 :: msg 2 k 0 0) else [])
theorem scHearSeen : FnScope ["self", "number", "cell", "cost"] ["self", "number", "cell", "cost"] (defScope sHearSeen) := ⟨rfl, rfl, rfl, by decide +kernel, rfl, by decide +kernel, by decide +kernel⟩
theorem ok_hearSeen {f C : Addr} {fd : FuncData} (F : Fun K "hear_seen" "People.hear_seen" sHearSeen f fd) (G : Gs mg) (T : PT_ K C) (CS : CSend P w K mg base) : FnOk P w K mg base CX0 3 f fd ["self", "number", "cell", "cost"] (spHearSeen C) := by
  refine F.ok scHearSeen (fun vs H Q E h => ?_) (fun cdv A' outer s H vs Q E hr h => ?_)
  · obtain ⟨p, ac, b, k, c, x, rfl, _⟩ := h
    rfl
  · obtain ⟨p, ac, b, k, c, x, rfl, R, W, hc, q⟩ := h
    obtain ⟨dx, ho⟩ := R.ob
    refine ⟨_, pss_cons (ps_if (pt_cmpR op_eq (L2.pv 1) (pe_op op_add (pe_fld (L2.pv 0) rfl) pe_int) (nomark _)) (pss_cons (ps_fld (L2.pv 0) (L2.pv 1) rfl) (pss_one (ps_asg (L2.pv 3) (pg_sub (pe_fld (L2.pv 0) rfl) (L2.pv 2) set_list)))) pss_nil)
      (pss_cons (ps_if (pt_cmpR op_gt (L2.pv 1) (pe_fld (L2.pv 0) rfl) (nomark _)) (pss_one (ps_ret (pe_lst pa_nil))) pss_nil)
      (pss_one (ps_ret (pe_cal CS hr rfl (pa_cons (pe_gi rfl G.HAD) (pa_cons (L2.pv 1) (pa_cons pe_int (pa_cons pe_int pa_nil)))))))), ?_⟩
    refine seq_if (fun σ' H' => σ' = [some (.ref p), some (vI k), some (vI c), some (vI x)] ∧ PplAt C H' p ac (if k = b.told + 1 then { b with map := b.map.set c x, told := k } else b) ∧ FB p ac H H') ?_ (fun J => ?_)
    · rintro σ' H1 ⟨rfl, R1, fr1⟩
      obtain ⟨dx1, ho1⟩ := R1.ob
      have ht : ∀ {z : Nat}, z = (if k = b.told + 1 then ({ b with map := b.map.set c x, told := k } : Base) else b).told → (z < k ↔ ¬ k ≤ b.told + 1) := fun {z} e => by
        split at e
        · have : z = k := e
          omega
        · have : z = b.told := e
          omega
      refine ⟨_, rfl, _, rfl, p, C, dx1, _, _, rfl, ho1, T.cl, T.told, pf_told _ _, _, _, rfl, rfl, _, rfl, ite2 (fun h1 => ?_) (fun h1 => ?_)⟩
      · have h1' := of_decide_eq_true h1
        rw [if_neg ((ht rfl).mp (by omega))] at q
        exact ⟨Nat.zero_le _, q.fresh R1 fr1 rfl⟩
      · have h1' : ¬ (((if k = b.told + 1 then ({ b with map := b.map.set c x, told := k } : Base) else b).told : Nat) : Int) < (k : Int) := fun z => h1 (decide_eq_true z)
        rw [if_pos (show k ≤ b.told + 1 from Classical.byContradiction fun z => h1' (by have := (ht rfl).mpr z; omega))] at q
        refine ⟨_, rfl, 2, k, 0, 0, rfl, fun H2 r s2 hr2 e2 => ?_⟩
        exact q _ r (R1.same s2) (fr1.trans (FB.of s2)) (fr1.free R1 hr2) (by rw [e2, nL_iN])
    · refine ⟨_, rfl, _, rfl, p, C, dx, _, _, rfl, ho, T.cl, T.told, pf_told _ _, _, _, rfl, rfl, rfl, _, rfl, ite2 (fun h1 => ?_) (fun h1 => ?_)⟩
      · have h1' : k = b.told + 1 := by have := d_eq h1; omega
        refine ⟨_, rfl, _, rfl, p, C, dx, _, rfl, ho, T.cl, T.told, (by show 7 < 1000; decide), ?_⟩
        obtain ⟨R1, fr1⟩ := R.setF (dx := dx) (pf_putTold ac b k) rfl
        obtain ⟨dx1, ho1⟩ := R1.ob
        have hlen : (b.map.take b.n).length = b.n := by rw [List.length_take, W.len]; have := W.n256; omega
        refine ⟨_, rfl, _, rfl, p, C, dx1, _, _, rfl, ho1, T.cl, T.costs, pf_costs _ _, _, rfl, ac, _, _, c, rfl, rfl, R1.hc, ixN_nat (by rw [List.length_map]; show c < (b.map.take b.n).length; omega), ?_⟩
        refine J _ _ ⟨rfl, ?_, fr1.trans fun c' o e _ h2 => by rw [upd_ne h2]; exact e⟩
        rw [if_pos h1']
        refine ⟨⟨dx1, by rw [upd_ne R1.ne]; exact ho1⟩, ?_⟩
        rw [upd_same]
        show some (HO.lst ((nL (b.map.take b.n)).set c (vI x))) = some (.lst (nL ((b.map.set c x).take b.n)))
        rw [nL_set, List.take_set]
      · have h1' := d_ne h1
        refine J _ _ ⟨rfl, ?_, fun c' o e _ _ => e⟩
        rw [if_neg (fun z => h1' (by rw [z]; rfl))]
        exact R
end
end Rv
end
section
set_option Elab.async false
set_option linter.all false
set_option maxRecDepth 100000
set_option maxHeartbeats 4000000
namespace Rv
open PySem PySem.Spec PyProof.Rows L2 RvM
open Sr38 (Base bAct)
section
variable {P : Program} {w : World} {K : PySem.W.Frag} {mg : Str → Option Value} {base : Heap}
def spPHear (C : Addr) : Sp := fun vs H Q _ => ∃ (p ac am : Addr) (b : Base) (m : List Nat), vs = [.ref p, .ref am] ∧ H am = some (.lst (nL m)) ∧ (∀ x ∈ m, x ≤ 255) ∧ PDone C H p ac b Q (.bHeard (tookB m))
theorem scPHear : FnScope ["self", "m"] ["self", "m"] (defScope sPHear) := ⟨rfl, rfl, rfl, by decide +kernel, rfl, by decide +kernel, by decide +kernel⟩
theorem ok_pHear {f C : Addr} {fd : FuncData} (F : Fun K "hear" "People.hear" sPHear f fd) (G : Gs mg) (T : PT_ K C) (CK : Cal P w K mg base "is_seen" 3 ["m", "size"] (spIsSeen K)) (CA : Cal P w K mg base "is_answer" 3 ["m"] (spIsAns K)) (CN : Cal P w K mg base "number_of" 1 ["m"] (spNumberOf K))
    (MS : MCal P w K mg base C "hear_seen" 3 ["self", "number", "cell", "cost"] (spHearSeen C)) (MA : MCal P w K mg base C "hear_answer" 1 ["self", "number", "said"] (spHearAns C)) : FnOk P w K mg base CX0 4 f fd ["self", "m"] (spPHear C) := by
  refine F.ok scPHear (fun vs H Q E h => ?_) (fun cdv A' outer s H vs Q E hr h => ?_)
  · obtain ⟨p, ac, am, b, m, rfl, _⟩ := h
    rfl
  · obtain ⟨p, ac, am, b, m, rfl, hm, hb, R, W, q⟩ := h
    obtain ⟨dx, ho⟩ := R.ob
    have hr1 : Room 1 _ := hr.mono (by decide)
    refine ⟨_, pss_cons (ps_if (pt_val (pe_cal CK hr rfl (pa_cons (L2.pv 1) (pa_cons (pe_fld (L2.pv 0) rfl) pa_nil)))) (pss_one (ps_ret (pe_op op_cat (pe_lst (pa_cons pe_int pa_nil)) (pe_mc MS T.cl hr (L2.pv 0) (pa_cons (pe_cal CN hr1 rfl (pa_cons (L2.pv 1) pa_nil)) (pa_cons (pe_ix ix_list (L2.pv 1) pe_int (fun _ _ => rfl)) (pa_cons (pe_ix ix_list (L2.pv 1) pe_int (fun _ _ => rfl)) pa_nil))))))) pss_nil)
      (pss_cons (ps_if (pt_val (pe_cal CA hr rfl (pa_cons (L2.pv 1) pa_nil))) (pss_cons (ps_expr (pe_mc MA T.cl hr1 (L2.pv 0) (pa_cons (pe_cal CN hr1 rfl (pa_cons (L2.pv 1) pa_nil)) (pa_cons (pe_ix ix_list (L2.pv 1) pe_int (fun _ _ => rfl)) pa_nil)))) (pss_one (ps_ret (pe_lst (pa_cons pe_int pa_nil))))) pss_nil)
      (pss_one (ps_ret (pe_lst (pa_cons (pe_gi rfl G.BAD_MESSAGE) pa_nil))))), ?_⟩
    refine ⟨_, rfl, _, rfl, p, C, dx, _, _, rfl, ho, T.cl, T.size, pf_size _ _, am, m, b.n, rfl, SqL.of hm, _, rfl, ite2 (fun h1 => ?_) (fun h1 => ?_)⟩
    · obtain ⟨hf, h4, h5⟩ := isSeen_framed h1
      have h8 := framed_eight hf
      have hn := num_le hb
      have e1 := bHeard_seen h1
      unfold outB at q
      rw [e1] at q
      dsimp only at q
      refine ⟨one_line, fun l hl => ?_⟩
      have s1 := same_upd (o := .lst [V.int 0]) hl
      have R1 := R.same s1
      obtain ⟨dx1, ho1⟩ := R1.ob
      have hm1 := SqL.of (K := K) (s1 _ _ hm)
      refine ⟨_, rfl, p, dx1, _, rfl, ho1, pf_hearSeen _ _, _, rfl, am, m, rfl, hm1, h8, _, rfl, am, _, _, _, rfl, rfl, hm1, nums_at (i := 4) (by omega), _, rfl, am, _, _, _, rfl, rfl, hm1, nums_at (i := 5) (by omega), p, ac, b, numOf m, m.getD 4 0, m.getD 5 0, rfl, R1, W, h4, fun H2 r R2 fr2 hr2 e2 => ?_⟩
      have frA : FB p ac H H2 := (FB.of s1).trans fr2
      obtain ⟨dx2, ho2⟩ := R.ob
      have hlp : l ≠ p := (ne_of_none ho2 hl).symm
      have hlc : l ≠ ac := (ne_of_none R.hc hl).symm
      have hl2 : H2 l = some (.lst [V.int 0]) := fr2 _ _ upd_same hlp hlc
      refine ⟨l, r, _, _, rfl, rfl, hl2, e2, ?_, fun z hz => ?_⟩
      · refine line_small ?_
        rw [List.length_map]
        show 1 + _ ≤ 100000
        split
        · rw [msg_len]; decide
        · decide
      · have sz := same_upd (o := .lst ([V.int 0] ++ iL (if numOf m ≤ b.told + 1 then iN (3 :: msg 2 (numOf m) 0 0) else []))) hz
        refine q _ z (R2.same sz) (frA.trans (FB.of sz)) (frA.free R2 hz) ?_
        rw [upd_same]
        by_cases hle : numOf m ≤ b.told + 1
        · rw [if_pos hle, if_pos hle, had_eq hn]
          rfl
        · rw [if_neg hle, if_neg hle]
          rfl
    · have h1f : isSeen b.n m = false := by rw [← Bool.not_eq_true]; exact h1
      refine ⟨_, rfl, am, m, rfl, SqL.of hm, _, rfl, ite2 (fun h2 => ?_) (fun h2 => ?_)⟩
      · obtain ⟨hf, h4⟩ := isAns_framed h2
        have h8 := framed_eight hf
        have e1 := bHeard_ans h1f h2
        unfold outB at q
        rw [e1] at q
        dsimp only at q
        have hm1 := SqL.of (K := K) hm
        refine ⟨_, rfl, p, dx, _, rfl, ho, pf_hearAns _ _, _, rfl, am, m, rfl, hm1, h8, _, rfl, am, _, _, _, rfl, rfl, hm1, nums_at (i := 4) (by omega), p, ac, b, numOf m, m.getD 4 0, rfl, h4, R, fun H2 R2 fr2 => ?_⟩
        exact ⟨one_line, q.fresh R2 fr2 rfl⟩
      · have h2f : isAns m = false := by rw [← Bool.not_eq_true]; exact h2
        have e1 := bHeard_not h1f h2f
        unfold outB at q
        rw [e1] at q
        exact ⟨one_line, fun r hr => DoneB.new (out := [-71]) q R _ r (same_upd hr) hr upd_same⟩
def spWhole (C : Addr) : Sp := fun vs H Q _ => ∃ (p ac : Addr) (b : Base), vs = [.ref p] ∧ PDone C H p ac b Q .map
theorem scWhole : FnScope ["self"] ["self"] (defScope sWhole) := ⟨rfl, rfl, rfl, by decide +kernel, rfl, by decide +kernel, by decide +kernel⟩
theorem ok_whole {f C : Addr} {fd : FuncData} (F : Fun K "whole_map" "People.whole_map" sWhole f fd) (G4 : Gl4 mg) (T : PT_ K C) : FnOk P w K mg base CX0 1 f fd ["self"] (spWhole C) := by
  refine F.ok scWhole (fun vs H Q E h => ?_) (fun cdv A' outer s H vs Q E hr h => ?_)
  · obtain ⟨p, ac, b, rfl, _⟩ := h
    rfl
  · obtain ⟨p, ac, b, rfl, R, W, q⟩ := h
    obtain ⟨dx, ho⟩ := R.ob
    have n256 := W.n256
    refine ⟨_, pss_one (ps_ret (pe_op op_cat (pe_op op_cat (pe_lst (pa_cons (pe_fld (L2.pv 0) rfl) pa_nil)) (pe_fld (L2.pv 0) rfl)) (pe_op op_rep (pe_lst (pa_cons pe_int pa_nil)) (pe_op op_sub (pe_gi rfl G4.MOST_CELLS) (pe_fld (L2.pv 0) rfl))))), ?_⟩
    have eo : outB b .map = iN (b.told :: b.map) := by
      unfold outB
      show ((b.told : Int) :: Sr38Neutral.ints b.map) ++ [] = _
      rw [List.append_nil]
      rfl
    have q' := DoneB.new q R
    rw [eo, ← nL_iN] at q'
    have hlen : (b.map.take b.n).length = b.n := by rw [List.length_take, W.len]; omega
    refine ⟨_, rfl, p, C, dx, _, _, rfl, ho, T.cl, T.told, pf_told _ _, one_line, fun l hl => ?_⟩
    have s1 := same_upd (o := .lst [vI b.told]) hl
    refine ⟨_, rfl, p, C, dx, _, _, rfl, s1 _ _ ho, T.cl, T.costs, pf_costs _ _, l, ac, _, _, rfl, rfl, upd_same, s1 _ _ R.hc, line_small (by rw [List.length_map, hlen]; show 1 + b.n ≤ 100000; omega), fun l2 hl2 => ?_⟩
    have s2 := s1.trans (same_upd (o := .lst ([vI b.told] ++ nL (b.map.take b.n))) hl2)
    refine ⟨one_line, fun l3 hl3 => ?_⟩
    have s3 := s2.trans (same_upd (o := .lst [V.int 0]) hl3)
    have hl23 : upd (upd (upd H l (.lst [vI b.told])) l2 (.lst ([vI b.told] ++ nL (b.map.take b.n)))) l3 (.lst [V.int 0]) l2 = some (.lst ([vI b.told] ++ nL (b.map.take b.n))) := same_upd hl3 _ _ upd_same
    have e0 : ((256 : Int) - (b.n : Int)).toNat = 256 - b.n := by omega
    refine ⟨_, rfl, p, C, dx, _, _, rfl, s3 _ _ ho, T.cl, T.size, pf_size _ _, _, _, rfl, rfl, l3, _, _, rfl, rfl, upd_same, (by show -(2 ^ 63) ≤ (256 : Int) - (b.n : Int); omega), (by show (256 : Int) - (b.n : Int) < 2 ^ 63; omega), ?_, fun l4 hl4 => ?_⟩
    · show 1 * ((256 : Int) - (b.n : Int)).toNat ≤ sizeLine
      rw [e0]
      exact line_small (by omega)
    have eR : (List.replicate ((256 : Int) - (b.n : Int)).toNat ([V.int 0] : List V)).flatten = nL (List.replicate (256 - b.n) 0) := by
      rw [e0]
      exact rep_nL _
    have s4 := s3.trans (same_upd (o := .lst (List.replicate ((256 : Int) - (b.n : Int)).toNat ([V.int 0] : List V)).flatten) hl4)
    refine ⟨l2, l4, _, _, rfl, rfl, same_upd hl4 _ _ hl23, upd_same, ?_, fun z hz => ?_⟩
    · refine line_small ?_
      rw [eR, List.length_append, List.length_map, List.length_map, List.length_replicate, hlen]
      show 1 + b.n + (256 - b.n) ≤ 100000
      omega
    · refine q' _ z (s4.trans (same_upd hz)) (s4.free hz) ?_
      rw [upd_same, eR]
      have := W.pad
      show some (HO.lst ((vI b.told :: nL (b.map.take b.n)) ++ nL (List.replicate (256 - b.n) 0))) = some (.lst (vI b.told :: nL b.map))
      rw [List.cons_append, nL, nL, ← List.map_append, ← this]
def spPState (C : Addr) : Sp := fun vs H Q _ => ∃ (p ac : Addr) (b : Base), vs = [.ref p] ∧ PDone C H p ac b Q .bState
theorem scPState : FnScope ["self", "said"] ["self"] (defScope sPState) := ⟨rfl, rfl, rfl, by decide +kernel, rfl, by decide +kernel, by decide +kernel⟩
theorem ok_pState {f C : Addr} {fd : FuncData} (F : Fun K "state" "People.state" sPState f fd) (T : PT_ K C) : FnOk P w K mg base CX0 1 f fd ["self"] (spPState C) := by
  refine F.ok scPState (fun vs H Q E h => ?_) (fun cdv A' outer s H vs Q E hr h => ?_)
  · obtain ⟨p, ac, b, rfl, _⟩ := h
    rfl
  · obtain ⟨p, ac, b, rfl, R, W, q⟩ := h
    obtain ⟨dx, ho⟩ := R.ob
    refine ⟨_, pss_cons (ps_set (i := 1) scPState.nd rfl (Or.inl rfl) pe_int) (pss_cons (ps_if (pt_cmpR op_notN (pe_fld (L2.pv 0) rfl) pe_non (nomark _)) (pss_one (ps_set (i := 1) scPState.nd rfl (Or.inl rfl) (pe_op op_add pe_int (pe_fld (L2.pv 0) rfl)))) pss_nil)
      (pss_one (ps_ret (pe_lst (pa_cons pe_int (pa_cons (pe_fld (L2.pv 0) rfl) (pa_cons (pe_fld (L2.pv 0) rfl) (pa_cons (pe_fld (L2.pv 0) rfl) (pa_cons (L2.pv 1) pa_nil))))))))), ?_⟩
    have q' := DoneB.new q R
    have fin : ∀ n : Nat, (n = match b.ans with | none => 0 | some y => if y then 2 else 1) → tRet (tLst (tCons (tC (V.int 0)) (tCons (tFld K (tVar 0) "told") (tCons (tFld K (tVar 0) "last_number") (tCons (tFld K (tVar 0) "last_cell") (tCons (tVar 1) tNil)))))) { nx := fun x H' => Q V.non H', rt := Q } [some (.ref p), some (vI n)] H := fun n hn => by
      refine ⟨_, rfl, p, C, dx, _, _, rfl, ho, T.cl, T.told, pf_told _ _, _, rfl, p, C, dx, _, _, rfl, ho, T.cl, T.last_number, pf_number _ _, _, rfl, p, C, dx, _, _, rfl, ho, T.cl, T.last_cell, pf_cell _ _, _, rfl, (by show 5 ≤ sizeLine; decide), fun r hr => ?_⟩
      refine q' _ r (same_upd hr) hr ?_
      rw [upd_same]
      subst hn
      rfl
    refine ⟨_, rfl, p, C, dx, _, _, rfl, ho, T.cl, T.last_answer, pf_answer _ _, rfl, _, rfl, ite2 (fun h1 => ?_) (fun h1 => ?_)⟩
    · cases e : b.ans with
      | none => rw [e] at h1; cases h1
      | some y =>
        have hv : (pf ac b).lookup ("last_answer" : Str) = some (vI (if y then 1 else 0)) := by rw [pf_answer, e]; rfl
        refine ⟨_, rfl, p, C, dx, _, _, rfl, ho, T.cl, T.last_answer, hv, _, _, rfl, rfl, ?_⟩
        have := fin (1 + (if y then 1 else 0)) (by rw [e]; cases y <;> rfl)
        cases y <;> exact this
    · have e : b.ans = none := by
        cases e : b.ans with
        | none => rfl
        | some y => rw [e] at h1; exact absurd rfl h1
      exact fin 0 (by rw [e])
end
end Rv
end
section
set_option Elab.async false
set_option linter.all false
set_option maxRecDepth 100000
set_option maxHeartbeats 4000000
namespace Rv
open PySem PySem.Spec PyProof.Rows L2 RvM
open Sr38 (Base bAct Rover)
open Sr38Neutral (S tried asked1)
abbrev sStartPeople : Stmt := inClass (top 63) 2
abbrev sAnswer : Stmt := inClass (top 63) 3
abbrev sOnRover : Stmt := inClass (top 63) 4
abbrev sOnPeople : Stmt := inClass (top 63) 5
def pplForm (CP : Addr) : PeopleForm where
  at_ := fun H p b O => ∃ ac, PplAt CP H p ac b ∧ ∀ c, O c ↔ c = p ∨ c = ac
  on := fun ⟨ac, R, hO⟩ k => ⟨ac, ⟨let ⟨dx, h⟩ := R.ob; ⟨dx, k _ ((hO _).mpr (.inl rfl)) _ h⟩, k _ ((hO _).mpr (.inr rfl)) _ R.hc⟩, hO⟩
  has := fun ⟨ac, R, hO⟩ c hc z => by
    obtain ⟨dx, h⟩ := R.ob
    rcases (hO c).mp hc with e | e
    · rw [e, h] at z; cases z
    · rw [e, R.hc] at z; cases z
section
variable {C CL CP : Addr} {H : Hp} {Lp : Addr} {s : S} {O : Addr → Prop} {dx : Addr} {rv pv : V} {Or Op : Addr → Prop} {Q : VK} {E : XK} {y : S × List Int}
/-- a call on the people's end by the line -/
theorem br_people {c : Sr38.Call} (L : LineAt C CL (pplForm CP) H Lp s O dx rv pv Or Op) (hc : ∀ m, c = .bHeard m → ∃ l : List Nat, m = tookB l ∧ numOf l ≤ 65535) (ht : Sr38Neutral.byBase s c = some y) (q : LDone (lineForm C CL (pplForm CP)) H Lp O Q y) :
    ∃ (ap ac dr : Addr) (b : Base), pv = .ref ap ∧ H ap = some (.ins CP dr (pf ac b)) ∧ PDone CP H ap ac b Q c := by
  obtain ⟨b, hs, rfl⟩ := byBase_some ht
  obtain ⟨ap, e, ⟨ac, R, hO⟩, W, hd⟩ := L.people hs
  obtain ⟨dr, ho⟩ := R.ob
  refine ⟨ap, ac, dr, b, e, ho, R, W, fun H' r R' fr hr er => ?_⟩
  exact hd Q _ _ (bAct_wf W c hc) q H' r ⟨ac, R', hO⟩ (fun d o z hd => fr d o z (fun e => hd ((hO d).mpr (.inl e))) fun e => hd ((hO d).mpr (.inr e))) hr er
end
section
variable {P : Program} {w : World} {K : PySem.W.Frag} {mg : Str → Option Value} {base : Heap}
def spStartPeople (CP CL : Addr) : Sp := fun vs H Q _ => ∃ (Lp dx : Addr) (rv pv : V) (x y : Nat), vs = [.ref Lp, vI x, vI y] ∧ H Lp = some (.ins CL dx (lf rv pv)) ∧
  ((Sr37.okSize x && Sr37.okSize y) = false → NewList H Q (iL [-22])) ∧
  ((Sr37.okSize x && Sr37.okSize y) = true → ∀ (H' : Hp) (ap ac p : Addr), PplAt CP H' ap ac (Sr38.startB x y) → H' Lp = some (.ins CL dx (lf rv (.ref ap))) → Sx Lp H H' → H ap = none → H ac = none → H p = none → p ≠ ap → p ≠ ac → H' p = some (.lst (iL [0])) → Q (.ref p) H')
theorem scStartPeople : FnScope ["self", "width", "height"] ["self", "width", "height"] (defScope sStartPeople) := ⟨rfl, rfl, rfl, by decide +kernel, rfl, by decide +kernel, by decide +kernel⟩
theorem ok_startPeople {f CP CL : Addr} {fd : FuncData} (F : Fun K "start_people" "Line.start_people" sStartPeople f fd) (G2 : Gl2 mg) (T : LT K CL) (CS : Cal P w K mg base "sides_fit" 1 ["width", "height"] spSides)
    (MP : MkCal P w K mg base "People" CP 1 ["self", "width", "height"] (spPInit CP)) : FnOk P w K mg base CX0 3 f fd ["self", "width", "height"] (spStartPeople CP CL) := by
  refine F.ok scStartPeople (fun vs H Q E h => ?_) (fun cdv A' outer s H vs Q E hr h => ?_)
  · obtain ⟨Lp, dx, rv, pv, x, y, rfl, _⟩ := h
    rfl
  · obtain ⟨Lp, dx, rv, pv, x, y, rfl, hL, qn, qy⟩ := h
    have hr1 : Room 1 _ := hr.mono (by decide)
    refine ⟨_, pss_cons (ps_if (pt_not (pt_val (pe_cal CS hr1 rfl (pa_cons (L2.pv 1) (pa_cons (L2.pv 2) pa_nil))))) (pss_one (ps_ret (pe_lst (pa_cons (pe_gi rfl G2.BAD_VALUE) pa_nil)))) pss_nil)
      (pss_cons (ps_fld (L2.pv 0) (pe_mk MP hr rfl (pa_cons (L2.pv 1) (pa_cons (L2.pv 2) pa_nil))) rfl)
      (pss_one (ps_ret (pe_lst (pa_cons pe_int pa_nil))))), ?_⟩
    refine ⟨_, rfl, _, rfl, x, y, rfl, _, rfl, ite2 (fun h1 => ?_) (fun h1 => ?_)⟩
    · have e : (Sr37.okSize x && Sr37.okSize y) = false := by
        cases e : (Sr37.okSize x && Sr37.okSize y) with
        | false => rfl
        | true => rw [e] at h1; cases h1
      exact ⟨one_line, fun p hp => qn e _ p (same_upd hp) hp upd_same⟩
    have hok : (Sr37.okSize x && Sr37.okSize y) = true := by
      cases e : (Sr37.okSize x && Sr37.okSize y) with
      | true => rfl
      | false => rw [e] at h1; exact absurd rfl h1
    refine ⟨_, rfl, _, rfl, fun rp rd' nrp nrd nne => ?_⟩
    have s0 : Same H (upd (upd H rd' (.own rp)) rp (.ins CP rd' [])) := fun b o e => by rw [upd_ne (ne_of_none e nrp), upd_ne (ne_of_none e nrd)]; exact e
    refine ⟨rp, rd', x, y, rfl, upd_same, hok, fun H2 ac R2 sx2 nac => ⟨rfl, ?_⟩⟩
    have s2 : Same H H2 := fun b o e => sx2 _ _ (s0 _ _ e) (ne_of_none e nrp)
    have nac' : H ac = none := s0.free nac
    refine ⟨_, rfl, Lp, CL, dx, _, rfl, s2 _ _ hL, T.cl, T.people, (by show 2 < 1000; decide), one_line, fun p hp => ?_⟩
    have n1 : rp ≠ Lp := (ne_of_none hL nrp).symm
    have n2 : ac ≠ Lp := (ne_of_none hL nac').symm
    have R3 : PplAt CP (upd H2 Lp (.ins CL dx (putF "people" (.ref rp) (lf rv pv)))) rp ac (Sr38.startB x y) := by
      obtain ⟨d2, ho2⟩ := R2.ob
      exact ⟨⟨d2, by rw [upd_ne n1]; exact ho2⟩, by rw [upd_ne n2]; exact R2.hc⟩
    obtain ⟨d3, ho3⟩ := R3.ob
    have sp := same_upd (o := .lst [V.int 0]) hp
    refine qy hok _ rp ac p (R3.same sp) ?_ (fun b o e hb => sp _ _ (by rw [upd_ne hb]; exact s2 _ _ e)) nrp nac' ?_ (fun e => by rw [e, ho3] at hp; cases hp) (fun e => by rw [e, R3.hc] at hp; cases hp) upd_same
    · refine sp _ _ ?_
      rw [upd_same, lf_putPeople]
    · cases e : H p with
      | none => rfl
      | some o =>
        by_cases z : p = Lp
        · rw [z, upd_same] at hp; cases hp
        · rw [upd_ne z, s2 _ _ e] at hp; cases hp
theorem br_startPeople {C CL CP : Addr} {H : Hp} {Lp : Addr} {s : S} {O : Addr → Prop} {dx : Addr} {rv pv : V} {Or Op : Addr → Prop} {Q : VK} {E : XK} {y : S × List Int} {x yy : Nat} (L : LineAt C CL (pplForm CP) H Lp s O dx rv pv Or Op) (ht : tried s [[5, (x : Int), (yy : Int)]] = some y)
    (q : LDone (lineForm C CL (pplForm CP)) H Lp O Q y) : spStartPeople CP CL [.ref Lp, vI x, vI yy] H Q E := by
  have e : tried s [[5, (x : Int), (yy : Int)]] = if Sr37.okSize x = false ∨ Sr37.okSize yy = false then some (s, [-22]) else some ((s.1, some (Sr38.startB x yy)), [0]) := rfl
  rw [e] at ht
  refine ⟨Lp, dx, rv, pv, x, yy, rfl, L.ob, fun h => ?_, fun h H' ap ac p R hL sx nap nac hp h1 h2 ep => ?_⟩
  · rw [if_pos (by rw [Bool.and_eq_false_iff] at h; exact h)] at ht
    cases ht
    exact L.new q
  · rw [Bool.and_eq_true] at h
    rw [if_neg (by rintro (z | z); rw [h.1] at z; cases z; rw [h.2] at z; cases z)] at ht
    cases ht
    refine L.startPeople (startB_wf h.1 h.2) q H' ap (fun c => c = ap ∨ c = ac) p ⟨ac, R, fun _ => Iff.rfl⟩ hL sx (fun b hb => ?_) hp (fun z => z.elim h1 h2) ep
    rcases hb with rfl | rfl
    · exact nap
    · exact nac
/-- which call it is and what's to be answered; ok: of which calls -/
def spOn {CL : Addr} (F : LineForm CL) (ok : Int → Prop) : Sp := fun vs H Q _ => ∃ (Lp ap ar : Addr) (s : S) (O : Addr → Prop) (p : Int) (ps row : List Int) (y : S × List Int), vs = [.ref Lp, .ref ap, .ref ar] ∧ ok p ∧ F.at_ H Lp s O ∧ H ap = some (.lst (iL (p :: ps))) ∧ H ar = some (.lst (iL row)) ∧
  ((row = [] ∧ asked1 [p :: ps] = true ∧ tried s [p :: ps] = some y) ∨ (asked1 [p :: ps, row] = true ∧ tried s [p :: ps, row] = some y)) ∧ LDone F H Lp O Q y
theorem scOnRover : FnScope ["self", "plain", "row", "call"] ["self", "plain", "row"] (defScope sOnRover) := ⟨rfl, rfl, rfl, by decide +kernel, rfl, by decide +kernel, by decide +kernel⟩
theorem ok_onRover {f C CL CP : Addr} {fd : FuncData} (F : Fun K "answer_on_rover" "Line.answer_on_rover" sOnRover f fd) (G3 : Gl3 mg) (T : LT K CL) (TR : RT K C) (MStep : MCal P w K mg base C "step" 5 ["self"] (spStep C)) (MHear : MCal P w K mg base C "hear" 5 ["self", "m"] (spHear C))
    (MTick : MCal P w K mg base C "tick" 4 ["self"] (spTick C)) (MState : MCal P w K mg base C "state" 1 ["self"] (spState C)) (MStart : MCal P w K mg base CL "start_rover" 5 ["self", "width", "height", "home", "room", "ground"] (spStartRover C CL)) :
    FnOk P w K mg base CX0 6 f fd ["self", "plain", "row"] (spOn (lineForm C CL (pplForm CP)) (fun p => p < 5)) := by
  refine F.ok scOnRover (fun vs H Q E h => ?_) (fun cdv A' outer s H vs Q E hr h => ?_)
  · obtain ⟨Lp, ap, ar, s, O, p, ps, row, y, rfl, _⟩ := h
    rfl
  · obtain ⟨Lp, ap, ar, s, O, p, ps, row, y, rfl, hp5, ⟨dx, rv, pv, Oq, Op, L⟩, hap, har, hask, q⟩ := h
    have hr4 : Room 4 _ := hr.mono (by decide)
    have hr1 : Room 1 _ := hr.mono (by decide)
    refine ⟨_, pss_cons (ps_set (i := 3) scOnRover.nd rfl (Or.inl rfl) (pe_ix ix_list (L2.pv 1) pe_int (fun _ _ => rfl)))
      (pss_cons (ps_if (pt_cmpR op_eq (L2.pv 3) (pe_gi rfl G3.RV_STEP) (nomark _)) (pss_one (ps_ret (pe_mc0 MStep TR.cl hr (pe_fld (L2.pv 0) rfl)))) pss_nil)
      (pss_cons (ps_if (pt_cmpR op_eq (L2.pv 3) (pe_gi rfl G3.RV_HEARD) (nomark _)) (pss_one (ps_ret (pe_mc MHear TR.cl hr (pe_fld (L2.pv 0) rfl) (pa_cons (L2.pv 2) pa_nil)))) pss_nil)
      (pss_cons (ps_if (pt_cmpR op_eq (L2.pv 3) (pe_gi rfl G3.RV_TICK) (nomark _)) (pss_one (ps_ret (pe_mc0 MTick TR.cl hr4 (pe_fld (L2.pv 0) rfl)))) pss_nil)
      (pss_cons (ps_if (pt_cmpR op_eq (L2.pv 3) (pe_gi rfl G3.RV_STATE) (nomark _)) (pss_one (ps_ret (pe_mc0 MState TR.cl hr1 (pe_fld (L2.pv 0) rfl)))) pss_nil)
      (pss_one (ps_ret (pe_mc MStart T.cl hr (L2.pv 0) (pa_cons (pe_ix ix_list (L2.pv 1) pe_int (fun _ _ => rfl)) (pa_cons (pe_ix ix_list (L2.pv 1) pe_int (fun _ _ => rfl)) (pa_cons (pe_ix ix_list (L2.pv 1) pe_int (fun _ _ => rfl)) (pa_cons (pe_ix ix_list (L2.pv 1) pe_int (fun _ _ => rfl)) (pa_cons (L2.pv 2) pa_nil)))))))))))), ?_⟩
    have hsq := SqL.of (K := K) hap
    refine ⟨_, rfl, ap, _, _, _, rfl, rfl, hsq, atI_nat (j := 0) rfl, ?_⟩
    rcases hask with ⟨rfl, ha, ht⟩ | ⟨ha, ht⟩
    · rcases asked_plain ha with ⟨rfl, rfl⟩ | ⟨rfl, rfl⟩ | ⟨rfl, rfl⟩ | ⟨rfl, _⟩ | ⟨rfl, _⟩ | ⟨rfl, _⟩ | ⟨rfl, _⟩ | ⟨rfl, _⟩
      · refine ⟨_, rfl, rfl, _, rfl, ite2 (fun _ => ?_) (fun h => absurd rfl (d_ne h))⟩
        obtain ⟨A, r, rfl, ⟨dr, hA⟩, hsp⟩ := br_step (E := E0) L ht q
        exact ⟨_, rfl, Lp, CL, dx, _, _, rfl, L.ob, T.cl, T.rover, lf_rover _ _, A.p, dr, _, rfl, hA, (by kernel_rfl), hsp⟩
      · refine ⟨_, rfl, rfl, _, rfl, ite2 (fun h => absurd (d_eq h) (by decide)) (fun _ => ?_)⟩
        refine ⟨_, rfl, rfl, _, rfl, ite2 (fun h => absurd (d_eq h) (by decide)) (fun _ => ?_)⟩
        refine ⟨_, rfl, rfl, _, rfl, ite2 (fun _ => ?_) (fun h => absurd rfl (d_ne h))⟩
        obtain ⟨A, r, rfl, ⟨dr, hA⟩, hsp⟩ := br_tick (E := E0) L ht q
        exact ⟨_, rfl, Lp, CL, dx, _, _, rfl, L.ob, T.cl, T.rover, lf_rover _ _, A.p, dr, _, rfl, hA, (by kernel_rfl), hsp⟩
      · refine ⟨_, rfl, rfl, _, rfl, ite2 (fun h => absurd (d_eq h) (by decide)) (fun _ => ?_)⟩
        refine ⟨_, rfl, rfl, _, rfl, ite2 (fun h => absurd (d_eq h) (by decide)) (fun _ => ?_)⟩
        refine ⟨_, rfl, rfl, _, rfl, ite2 (fun h => absurd (d_eq h) (by decide)) (fun _ => ?_)⟩
        refine ⟨_, rfl, rfl, _, rfl, ite2 (fun _ => ?_) (fun h => absurd rfl (d_ne h))⟩
        obtain ⟨A, r, rfl, ⟨dr, hA⟩, hsp⟩ := br_state (E := E0) L ht q
        exact ⟨_, rfl, Lp, CL, dx, _, _, rfl, L.ob, T.cl, T.rover, lf_rover _ _, A.p, dr, _, rfl, hA, (by kernel_rfl), hsp⟩
      all_goals exact absurd hp5 (by decide)
    · rcases asked_row ha with ⟨rfl, w', h', c', room, g, rfl, rfl, hgl, hgk⟩ | ⟨rfl, rfl, b, rfl, hb, h8⟩ | ⟨rfl, _⟩
      · refine ⟨_, rfl, rfl, _, rfl, ite2 (fun h => absurd (d_eq h) (by decide)) (fun _ => ?_)⟩
        refine ⟨_, rfl, rfl, _, rfl, ite2 (fun h => absurd (d_eq h) (by decide)) (fun _ => ?_)⟩
        refine ⟨_, rfl, rfl, _, rfl, ite2 (fun h => absurd (d_eq h) (by decide)) (fun _ => ?_)⟩
        refine ⟨_, rfl, rfl, _, rfl, ite2 (fun h => absurd (d_eq h) (by decide)) (fun _ => ?_)⟩
        refine ⟨_, rfl, Lp, dx, _, rfl, L.ob, (by kernel_rfl), _, rfl, ap, _, _, _, rfl, rfl, hsq, atI_nat (j := 1) rfl, _, rfl, ap, _, _, _, rfl, rfl, hsq, atI_nat (j := 2) rfl, _, rfl, ap, _, _, _, rfl, rfl, hsq, atI_nat (j := 3) rfl, _, rfl, ap, _, _, _, rfl, rfl, hsq, atI_nat (j := 4) rfl, _, rfl, ?_⟩
        exact br_start (E := E0) L har hgl hgk ht q
      · refine ⟨_, rfl, rfl, _, rfl, ite2 (fun h => absurd (d_eq h) (by decide)) (fun _ => ?_)⟩
        refine ⟨_, rfl, rfl, _, rfl, ite2 (fun _ => ?_) (fun h => absurd rfl (d_ne h))⟩
        obtain ⟨A, r, rfl, ⟨dr, hA⟩, hsp⟩ := br_hear (E := E0) L har hb h8 ht q
        exact ⟨_, rfl, Lp, CL, dx, _, _, rfl, L.ob, T.cl, T.rover, lf_rover _ _, A.p, dr, _, rfl, hA, (by kernel_rfl), _, rfl, hsp⟩
      · exact absurd hp5 (by decide)
theorem scOnPeople : FnScope ["self", "plain", "row", "call"] ["self", "plain", "row"] (defScope sOnPeople) := ⟨rfl, rfl, rfl, by decide +kernel, rfl, by decide +kernel, by decide +kernel⟩
theorem ok_onPeople {f C CL CP : Addr} {fd : FuncData} (F : Fun K "answer_on_people" "Line.answer_on_people" sOnPeople f fd) (G4 : Gl4 mg) (T : LT K CL) (TP : PT_ K CP) (MAvoid : MCal P w K mg base CP "avoid" 4 ["self", "cell"] (spAvoid CP)) (MHear : MCal P w K mg base CP "hear" 4 ["self", "m"] (spPHear CP))
    (MTick : MCal P w K mg base CP "tick" 4 ["self"] (spPTick CP)) (MMap : MCal P w K mg base CP "whole_map" 1 ["self"] (spWhole CP)) (MState : MCal P w K mg base CP "state" 1 ["self"] (spPState CP)) (MStart : MCal P w K mg base CL "start_people" 3 ["self", "width", "height"] (spStartPeople CP CL)) :
    FnOk P w K mg base CX0 6 f fd ["self", "plain", "row"] (spOn (lineForm C CL (pplForm CP)) (fun p => ¬ p < 5)) := by
  refine F.ok scOnPeople (fun vs H Q E h => ?_) (fun cdv A' outer s H vs Q E hr h => ?_)
  · obtain ⟨Lp, ap, ar, s, O, p, ps, row, y, rfl, _⟩ := h
    rfl
  · obtain ⟨Lp, ap, ar, s, O, p, ps, row, y, rfl, hp5, ⟨dx, rv, pv, Oq, Op, L⟩, hap, har, hask, q⟩ := h
    have hr4 : Room 4 _ := hr.mono (by decide)
    have hr3 : Room 3 _ := hr.mono (by decide)
    have hr1 : Room 1 _ := hr.mono (by decide)
    refine ⟨_, pss_cons (ps_set (i := 3) scOnPeople.nd rfl (Or.inl rfl) (pe_ix ix_list (L2.pv 1) pe_int (fun _ _ => rfl)))
      (pss_cons (ps_if (pt_cmpR op_eq (L2.pv 3) (pe_gi rfl G4.BS_AVOID) (nomark _)) (pss_one (ps_ret (pe_mc MAvoid TP.cl hr4 (pe_fld (L2.pv 0) rfl) (pa_cons (pe_ix ix_list (L2.pv 1) pe_int (fun _ _ => rfl)) pa_nil)))) pss_nil)
      (pss_cons (ps_if (pt_cmpR op_eq (L2.pv 3) (pe_gi rfl G4.BS_HEARD) (nomark _)) (pss_one (ps_ret (pe_mc MHear TP.cl hr4 (pe_fld (L2.pv 0) rfl) (pa_cons (L2.pv 2) pa_nil)))) pss_nil)
      (pss_cons (ps_if (pt_cmpR op_eq (L2.pv 3) (pe_gi rfl G4.BS_TICK) (nomark _)) (pss_one (ps_ret (pe_mc0 MTick TP.cl hr4 (pe_fld (L2.pv 0) rfl)))) pss_nil)
      (pss_cons (ps_if (pt_cmpR op_eq (L2.pv 3) (pe_gi rfl G4.BS_MAP) (nomark _)) (pss_one (ps_ret (pe_mc0 MMap TP.cl hr1 (pe_fld (L2.pv 0) rfl)))) pss_nil)
      (pss_cons (ps_if (pt_cmpR op_eq (L2.pv 3) (pe_gi rfl G4.BS_STATE) (nomark _)) (pss_one (ps_ret (pe_mc0 MState TP.cl hr1 (pe_fld (L2.pv 0) rfl)))) pss_nil)
      (pss_one (ps_ret (pe_mc MStart T.cl hr3 (L2.pv 0) (pa_cons (pe_ix ix_list (L2.pv 1) pe_int (fun _ _ => rfl)) (pa_cons (pe_ix ix_list (L2.pv 1) pe_int (fun _ _ => rfl)) pa_nil)))))))))), ?_⟩
    have hsq := SqL.of (K := K) hap
    refine ⟨_, rfl, ap, _, _, _, rfl, rfl, hsq, atI_nat (j := 0) rfl, ?_⟩
    rcases hask with ⟨rfl, ha, ht⟩ | ⟨ha, ht⟩
    · rcases asked_plain ha with ⟨rfl, _⟩ | ⟨rfl, _⟩ | ⟨rfl, _⟩ | ⟨rfl, w', h', rfl⟩ | ⟨rfl, c', rfl⟩ | ⟨rfl, rfl⟩ | ⟨rfl, rfl⟩ | ⟨rfl, rfl⟩
      · exact absurd (by decide) hp5
      · exact absurd (by decide) hp5
      · exact absurd (by decide) hp5
      · refine ⟨_, rfl, rfl, _, rfl, ite2 (fun h => absurd (d_eq h) (by decide)) (fun _ => ?_)⟩
        refine ⟨_, rfl, rfl, _, rfl, ite2 (fun h => absurd (d_eq h) (by decide)) (fun _ => ?_)⟩
        refine ⟨_, rfl, rfl, _, rfl, ite2 (fun h => absurd (d_eq h) (by decide)) (fun _ => ?_)⟩
        refine ⟨_, rfl, rfl, _, rfl, ite2 (fun h => absurd (d_eq h) (by decide)) (fun _ => ?_)⟩
        refine ⟨_, rfl, rfl, _, rfl, ite2 (fun h => absurd (d_eq h) (by decide)) (fun _ => ?_)⟩
        refine ⟨_, rfl, Lp, dx, _, rfl, L.ob, (by kernel_rfl), _, rfl, ap, _, _, _, rfl, rfl, hsq, atI_nat (j := 1) rfl, _, rfl, ap, _, _, _, rfl, rfl, hsq, atI_nat (j := 2) rfl, ?_⟩
        exact br_startPeople (E := E0) L ht q
      · refine ⟨_, rfl, rfl, _, rfl, ite2 (fun _ => ?_) (fun h => absurd rfl (d_ne h))⟩
        obtain ⟨pp, ac, dr, b, rfl, ho, D⟩ := br_people (c := .avoid c') L (fun m e => nomatch e) ht q
        exact ⟨_, rfl, Lp, CL, dx, _, _, rfl, L.ob, T.cl, T.people, lf_people _ _, pp, dr, _, rfl, ho, (by kernel_rfl), _, rfl, ap, _, _, _, rfl, rfl, hsq, atI_nat (j := 1) rfl, pp, ac, b, c', rfl, D⟩
      · refine ⟨_, rfl, rfl, _, rfl, ite2 (fun h => absurd (d_eq h) (by decide)) (fun _ => ?_)⟩
        refine ⟨_, rfl, rfl, _, rfl, ite2 (fun h => absurd (d_eq h) (by decide)) (fun _ => ?_)⟩
        refine ⟨_, rfl, rfl, _, rfl, ite2 (fun _ => ?_) (fun h => absurd rfl (d_ne h))⟩
        obtain ⟨pp, ac, dr, b, rfl, ho, D⟩ := br_people (c := .bTick) L (fun m e => nomatch e) ht q
        exact ⟨_, rfl, Lp, CL, dx, _, _, rfl, L.ob, T.cl, T.people, lf_people _ _, pp, dr, _, rfl, ho, (by kernel_rfl), pp, ac, b, rfl, D⟩
      · refine ⟨_, rfl, rfl, _, rfl, ite2 (fun h => absurd (d_eq h) (by decide)) (fun _ => ?_)⟩
        refine ⟨_, rfl, rfl, _, rfl, ite2 (fun h => absurd (d_eq h) (by decide)) (fun _ => ?_)⟩
        refine ⟨_, rfl, rfl, _, rfl, ite2 (fun h => absurd (d_eq h) (by decide)) (fun _ => ?_)⟩
        refine ⟨_, rfl, rfl, _, rfl, ite2 (fun _ => ?_) (fun h => absurd rfl (d_ne h))⟩
        obtain ⟨pp, ac, dr, b, rfl, ho, D⟩ := br_people (c := .map) L (fun m e => nomatch e) ht q
        exact ⟨_, rfl, Lp, CL, dx, _, _, rfl, L.ob, T.cl, T.people, lf_people _ _, pp, dr, _, rfl, ho, (by kernel_rfl), pp, ac, b, rfl, D⟩
      · refine ⟨_, rfl, rfl, _, rfl, ite2 (fun h => absurd (d_eq h) (by decide)) (fun _ => ?_)⟩
        refine ⟨_, rfl, rfl, _, rfl, ite2 (fun h => absurd (d_eq h) (by decide)) (fun _ => ?_)⟩
        refine ⟨_, rfl, rfl, _, rfl, ite2 (fun h => absurd (d_eq h) (by decide)) (fun _ => ?_)⟩
        refine ⟨_, rfl, rfl, _, rfl, ite2 (fun h => absurd (d_eq h) (by decide)) (fun _ => ?_)⟩
        refine ⟨_, rfl, rfl, _, rfl, ite2 (fun _ => ?_) (fun h => absurd rfl (d_ne h))⟩
        obtain ⟨pp, ac, dr, b, rfl, ho, D⟩ := br_people (c := .bState) L (fun m e => nomatch e) ht q
        exact ⟨_, rfl, Lp, CL, dx, _, _, rfl, L.ob, T.cl, T.people, lf_people _ _, pp, dr, _, rfl, ho, (by kernel_rfl), pp, ac, b, rfl, D⟩
    · rcases asked_row ha with ⟨rfl, _⟩ | ⟨rfl, _⟩ | ⟨rfl, rfl, b, rfl, hb, h8⟩
      · exact absurd (by decide) hp5
      · exact absurd (by decide) hp5
      · refine ⟨_, rfl, rfl, _, rfl, ite2 (fun h => absurd (d_eq h) (by decide)) (fun _ => ?_)⟩
        refine ⟨_, rfl, rfl, _, rfl, ite2 (fun _ => ?_) (fun h => absurd rfl (d_ne h))⟩
        have ht' : Sr38Neutral.byBase s (.bHeard (Sr38Neutral.eight (iNs b))) = some y := ht
        rw [h8] at ht'
        obtain ⟨pp, ac, dr, b', rfl, ho, D⟩ := br_people (c := .bHeard (tookB b)) L (fun m e => by cases e; exact ⟨b, rfl, num_le hb⟩) ht' q
        exact ⟨_, rfl, Lp, CL, dx, _, _, rfl, L.ob, T.cl, T.people, lf_people _ _, pp, dr, _, rfl, ho, (by kernel_rfl), _, rfl, pp, ac, ar, b', b, rfl, by rw [har, iL_iNs], hb, D⟩
theorem scAnswer : FnScope ["self", "plain", "row"] ["self", "plain", "row"] (defScope sAnswer) := ⟨rfl, rfl, rfl, by decide +kernel, rfl, by decide +kernel, by decide +kernel⟩
theorem ok_answer {f CL : Addr} {fd : FuncData} {LF : LineForm CL} (F : Fun K "answer" "Line.answer" sAnswer f fd) (G4 : Gl4 mg) (T : LT K CL) (MR : MCal P w K mg base CL "answer_on_rover" 6 ["self", "plain", "row"] (spOn LF (fun p => p < 5))) (MP : MCal P w K mg base CL "answer_on_people" 6 ["self", "plain", "row"] (spOn LF (fun p => ¬ p < 5))) :
    FnOk P w K mg base CX0 7 f fd ["self", "plain", "row"] (spAnswer LF) := by
  refine F.ok scAnswer (fun vs H Q E h => ?_) (fun cdv A' outer s H vs Q E hr h => ?_)
  · obtain ⟨Lp, ap, ar, s, O, p, ps, row, y, rfl, _⟩ := h
    rfl
  · obtain ⟨Lp, ap, ar, s, O, p, ps, row, y, rfl, hat, hap, har, _, _, ⟨n, hspec⟩, q⟩ := h
    refine ⟨_, pss_cons (ps_if (pt_cmpR op_lt (pe_ix ix_list (L2.pv 1) pe_int (fun _ _ => rfl)) (pe_gi rfl G4.BS_START) (nomark _)) (pss_one (ps_ret (pe_mc MR T.cl hr (L2.pv 0) (pa_cons (L2.pv 1) (pa_cons (L2.pv 2) pa_nil))))) pss_nil)
      (pss_one (ps_ret (pe_mc MP T.cl hr (L2.pv 0) (pa_cons (L2.pv 1) (pa_cons (L2.pv 2) pa_nil))))), ?_⟩
    obtain ⟨dx, rv, pv, ho⟩ := LF.ins hat
    have hs : (row = [] ∧ asked1 [p :: ps] = true ∧ tried s [p :: ps] = some y) ∨ (asked1 [p :: ps, row] = true ∧ tried s [p :: ps, row] = some y) := hspec.imp (fun z => ⟨z.2.1, z.2.2.1, z.2.2.2⟩) (fun z => ⟨z.2.1, z.2.2⟩)
    refine ⟨_, rfl, ap, _, _, _, rfl, rfl, SqL.of hap, atI_nat (j := 0) rfl, _, _, rfl, rfl, _, rfl, ite2 (fun h1 => ?_) (fun h1 => ?_)⟩
    · exact ⟨_, rfl, Lp, dx, _, rfl, ho, (by kernel_rfl), _, rfl, _, rfl, Lp, ap, ar, s, O, p, ps, row, y, rfl, of_decide_eq_true h1, hat, hap, har, hs, q⟩
    · exact ⟨_, rfl, Lp, dx, _, rfl, ho, (by kernel_rfl), _, rfl, _, rfl, Lp, ap, ar, s, O, p, ps, row, y, rfl, (fun z => h1 (decide_eq_true z)), hat, hap, har, hs, q⟩
end
end Rv
end
section
set_option Elab.async false
set_option linter.all false
set_option maxRecDepth 100000
set_option maxHeartbeats 2000000
namespace L2
open PySem PySem.Spec PyProof.Rows
open PySem.W (WData Codec OpenSpec Well WellAll ReadsW ReadsAllW)
/-! ### an answer as data -/
mutual
/-- x stands for the datum d, lists and tuples all the way -/
inductive Dw (K : PySem.W.Frag) (H : Hp) : V → WData → Prop
  | non : Dw K H .non .none
  | bl (b : Bool) : Dw K H (.bl b) (.bool b)
  | int (i : Int) : Dw K H (.int i) (.int i)
  | str (x : Str) : Dw K H (.str x) (.str x)
  | byt (b : Array UInt8) : Dw K H (.byt b) (.bytes b.toList)
  | lst {a : Addr} {xs : List V} {ds : List WData} : SqL K H a xs → DwAll K H xs ds → Dw K H (.ref a) (.list ds)
  | tup {a : Addr} {xs : List V} {ds : List WData} : SqT K H a xs → DwAll K H xs ds → Dw K H (.ref a) (.tuple ds)
inductive DwAll (K : PySem.W.Frag) (H : Hp) : List V → List WData → Prop
  | nil : DwAll K H [] []
  | cons {v : V} {vs : List V} {d : WData} {ds : List WData} : Dw K H v d → DwAll K H vs ds → DwAll K H (v :: vs) (d :: ds)
end
theorem dw_ints {K : PySem.W.Frag} {H : Hp} : ∀ ns : List Int, DwAll K H (ns.map V.int) (ns.map WData.int)
  | [] => .nil
  | n :: r => .cons (.int n) (dw_ints r)
theorem ints_dw {K : PySem.W.Frag} {H : Hp} : ∀ (ns : List Int) (xs : List V), DwAll K H xs (ns.map WData.int) → xs = ns.map V.int
  | [], xs, h => by
    cases h
    rfl
  | n :: r, xs, h => by
    cases h with
    | cons h1 h2 =>
      cases h1
      rw [ints_dw r _ h2] <;> rfl
section
variable {P : Program} {w : World} {K : PySem.W.Frag} {H : Hp} {h : Heap} {R : PySem.W.WRecords} {cl : Str → Option Addr}
theorem sqL_at {a : Addr} {xs : List V} (hok : HOk P w H h) (KX : K.In h) (q : SqL K H a xs) : ∃ (its : List Value) (o : Obj) (n : Nat), Vals xs its ∧ h.get? a = some o ∧ o.cls = .type "list" ∧ o.data = .seq its.toArray n := by
  rcases q with q | ⟨o, its, n, e, hc, _, hd, _, hv⟩
  · obtain ⟨_, its, n, hv, e⟩ := (show ObjOk P w H h a (.lst xs) from q.ok hok)
    exact ⟨its, _, n, hv, e, rfl, rfl⟩
  · exact ⟨its.toList, o, n, hv, KX _ _ e, hc, by simp [hd]⟩
theorem sqT_at {a : Addr} {xs : List V} (hok : HOk P w H h) (KX : K.In h) (q : SqT K H a xs) : ∃ (its : List Value) (o : Obj) (n : Nat), Vals xs its ∧ h.get? a = some o ∧ o.cls = .type "tuple" ∧ o.data = .seq its.toArray n := by
  rcases q with q | ⟨o, its, n, e, hc, hd, _, hv⟩
  · obtain ⟨_, its, hv, o, e, hc, n, hd⟩ := (show ObjOk P w H h a (.tup xs) from q.ok hok)
    exact ⟨its, o, n, hv, e, hc, hd⟩
  · exact ⟨its.toList, o, n, hv, KX _ _ e, hc, by simp [hd]⟩
mutual
theorem Dw.reads (hok : HOk P w H h) (KX : K.In h) : ∀ (d : WData) (v : V) (u : Value), Dw K H v d → RelV v u → ∃ as, ReadsW R cl h u d as
  | .none, _, _, x, r => by
    cases x
    cases r
    exact ⟨_, ReadsW.none⟩
  | .bool b, _, _, x, r => by
    cases x
    cases r
    exact ⟨_, ReadsW.bool b⟩
  | .int i, _, _, x, r => by
    cases x
    obtain ⟨t, rfl⟩ := r
    exact ⟨_, ReadsW.int i t⟩
  | .str s, _, _, x, r => by
    cases x
    obtain ⟨t, rfl⟩ := r
    exact ⟨_, ReadsW.str s t⟩
  | .bytes b, _, _, x, r => by
    cases x
    obtain ⟨t, rfl⟩ := r
    exact ⟨_, ReadsW.bytes _ t⟩
  | .list ds, _, _, x, r => by
    cases x with
    | lst hs ha =>
      cases r
      obtain ⟨its, o, n, rv, ho, hc, hd⟩ := sqL_at hok KX hs
      obtain ⟨as, hr⟩ := Dw.readsAll hok KX ds _ its ha rv
      exact ⟨_, ReadsW.list ho hc hd hr⟩
  | .tuple ds, _, _, x, r => by
    cases x with
    | tup hs ha =>
      cases r
      obtain ⟨its, o, n, rv, ho, hc, hd⟩ := sqT_at hok KX hs
      obtain ⟨as, hr⟩ := Dw.readsAll hok KX ds _ its ha rv
      exact ⟨_, ReadsW.tuple ho hc hd hr⟩
  | .float _, _, _, x, _ => by cases x
  | .dict _, _, _, x, _ => by cases x
  | .bytearray _, _, _, x, _ => by cases x
  | .set _, _, _, x, _ => by cases x
  | .frozenset _, _, _, x, _ => by cases x
  | .obj _ _, _, _, x, _ => by cases x
theorem Dw.readsAll (hok : HOk P w H h) (KX : K.In h) : ∀ (ds : List WData) (vs : List V) (us : List Value), DwAll K H vs ds → Vals vs us → ∃ as, ReadsAllW R cl h us ds as
  | [], _, _, x, r => by
    cases x
    cases r
    exact ⟨_, ReadsAllW.nil⟩
  | d :: ds, _, _, x, r => by
    cases x with
    | cons h1 h2 =>
      cases r with
      | cons r1 r2 =>
        obtain ⟨as, q1⟩ := Dw.reads hok KX d _ _ h1 r1
        obtain ⟨bs, q2⟩ := Dw.readsAll hok KX ds _ _ h2 r2
        exact ⟨_, ReadsAllW.cons q1 q2⟩
end
end
/-! ### the arguments -/
mutual
/-- data that a codec tells -/
def plW : WData → Bool
  | .none => true
  | .bool _ => true
  | .int _ => true
  | .str _ => true
  | .bytes _ => true
  | .list xs => plWs xs
  | .tuple xs => plWs xs
  | _ => false
def plWs : List WData → Bool
  | [] => true
  | x :: r => plW x && plWs r
end
theorem plWs_map {α : Type} {f : α → WData} (h : ∀ a, plW (f a) = true) : ∀ l : List α, plWs (l.map f) = true
  | [] => rfl
  | x :: r => by
    show (plW (f x) && plWs (r.map f)) = true
    rw [h x, plWs_map h r] <;> rfl
theorem pl_enc : ∀ (c : Codec) (a : c.denote), plW (c.enc a) = true
  | .unit, _ => rfl
  | .bool, _ => rfl
  | .int _ _, _ => rfl
  | .nat _ _, _ => rfl
  | .u8, _ => rfl
  | .bytes _ _, _ => rfl
  | .text _ _ _ _, _ => rfl
  | .list _ _ c, a => plWs_map (fun x => pl_enc c x) a
  | .pair c d, a => by
    show (plW (c.enc a.1) && (plW (d.enc a.2) && true)) = true
    rw [pl_enc c a.1, pl_enc d a.2] <;> rfl
  | .triple c d e, a => by
    show (plW (c.enc a.1) && (plW (d.enc a.2.1) && (plW (e.enc a.2.2) && true))) = true
    rw [pl_enc c a.1, pl_enc d a.2.1, pl_enc e a.2.2] <;> rfl
  | .option c, none => rfl
  | .option c, some x => pl_enc c x
theorem pl_encAll : ∀ (cs : List Codec) (a : Codec.denoteAll cs), plWs (Codec.encAll cs a) = true
  | [], _ => rfl
  | c :: cs, a => by
    show (plW (c.enc a.1) && plWs (Codec.encAll cs a.2)) = true
    rw [pl_enc c a.1, pl_encAll cs a.2] <;> rfl
theorem weight_mem : ∀ {xs : List WData} {d : WData}, d ∈ xs → d.weight ≤ WData.weightAll xs
  | [], d, h => absurd h (by simp)
  | x :: r, d, h => by
    show d.weight ≤ x.weight + 1 + WData.weightAll r
    rcases List.mem_cons.mp h with e | m
    · rw [e]
      omega
    · have z := weight_mem m
      omega
def toV : Value → V
  | .none => .non
  | .bool b => .bl b
  | .int i _ => .int i
  | .str x _ => .str x
  | .bytes b _ => .byt b
  | .ref a => .ref a
  | _ => .non
/-- a value of the arguments, its objects among A -/
def OkU (A : List Addr) : Value → Prop
  | .none => True
  | .bool _ => True
  | .int _ _ => True
  | .str _ _ => True
  | .bytes _ _ => True
  | .ref a => a ∈ A
  | _ => False
theorem OkU.mono {A B : List Addr} (h : ∀ a ∈ A, a ∈ B) : ∀ {u : Value}, OkU A u → OkU B u := fun {u} x => by
  cases u with
  | ref a => exact h a x
  | none => trivial
  | bool b => trivial
  | int i t => trivial
  | str s t => trivial
  | bytes b t => trivial
  | _ => exact False.elim x
theorem relV_toV {A : List Addr} {u : Value} (x : OkU A u) : RelV (toV u) u := by
  cases u with
  | ref a => rfl
  | none => rfl
  | bool b => rfl
  | int i t => exact ⟨t, rfl⟩
  | str s t => exact ⟨t, rfl⟩
  | bytes b t => exact ⟨t, rfl⟩
  | _ => exact False.elim x
theorem vals_toV {A : List Addr} : ∀ {vs : List Value}, (∀ u ∈ vs, OkU A u) → Vals (vs.map toV) vs
  | [], _ => .nil
  | u :: r, h => .cons (relV_toV (h u (List.mem_cons_self ..))) (vals_toV fun x hx => h x (List.mem_cons_of_mem _ hx))
/-- an object of the arguments -/
def ArgOb (h : Heap) (A : List Addr) (a : Addr) : Prop := ∃ vs : List Value, vs.length ≤ sizeLine ∧ (∀ u ∈ vs, OkU A u) ∧
  (h.get? a = some { cls := .type "list", data := .seq vs.toArray } ∨ h.get? a = some { cls := .type "tuple", data := .seq vs.toArray })
theorem ArgOb.mono {h : Heap} {A B : List Addr} {a : Addr} (k : ∀ a ∈ A, a ∈ B) (x : ArgOb h A a) : ArgOb h B a := by
  obtain ⟨vs, h1, h2, h3⟩ := x
  exact ⟨vs, h1, fun u hu => (h2 u hu).mono k, h3⟩
theorem wellAll_len {P : Params} {h : Heap} : ∀ {vs : List Value} {ds : List WData}, WellAll P h vs ds → vs.length = ds.length
  | _, _, .nil => rfl
  | _, _, .cons _ b => by
    show _ + 1 = _ + 1
    rw [wellAll_len b]
theorem well_list {P : Params} {h : Heap} {v : Value} {ds : List WData} (x : Well P h v (.list ds)) : ∃ (a : Addr) (vs : List Value), v = .ref a ∧ h.get? a = some { cls := .type "list", data := .seq vs.toArray } ∧ WellAll P h vs ds := by
  cases x with
  | list ho hall => exact ⟨_, _, rfl, ho, hall⟩
theorem well_tuple {P : Params} {h : Heap} {v : Value} {ds : List WData} (x : Well P h v (.tuple ds)) : ∃ (a : Addr) (vs : List Value), v = .ref a ∧ h.get? a = some { cls := .type "tuple", data := .seq vs.toArray } ∧ WellAll P h vs ds := by
  cases x with
  | tuple ho hall => exact ⟨_, _, rfl, ho, hall⟩
theorem well_cons {P : Params} {h : Heap} {us : List Value} {d : WData} {ds : List WData} (x : WellAll P h us (d :: ds)) : ∃ (v : Value) (vs : List Value), us = v :: vs ∧ Well P h v d ∧ WellAll P h vs ds := by
  cases x with
  | cons a b => exact ⟨_, _, rfl, a, b⟩
theorem line_of {n : Nat} (h : n ≤ 1048576) : n ≤ sizeLine := Nat.le_trans h (by decide)
section
variable {P : Params} {h : Heap}
mutual
theorem area_one : ∀ (d : WData) (v : Value), Well P h v d → plW d = true → d.weight ≤ 1048576 → ∃ A : List Addr, OkU A v ∧ ∀ a ∈ A, ArgOb h A a
  | .none, _, x, _, _ => by
    cases x
    exact ⟨[], trivial, fun a m => absurd m (by simp)⟩
  | .bool b, _, x, _, _ => by
    cases x
    exact ⟨[], trivial, fun a m => absurd m (by simp)⟩
  | .int i, _, x, _, _ => by
    cases x
    exact ⟨[], trivial, fun a m => absurd m (by simp)⟩
  | .str s, _, x, _, _ => by
    cases x
    exact ⟨[], trivial, fun a m => absurd m (by simp)⟩
  | .bytes b, _, x, _, _ => by
    cases x
    exact ⟨[], trivial, fun a m => absurd m (by simp)⟩
  | .list ds, _, x, p, z => by
    obtain ⟨a, vs, rfl, ho, hall⟩ := well_list x
    have z2 : WData.weightAll ds ≤ 1048576 := z
    obtain ⟨A, h1, h2⟩ := area_all ds _ hall p fun d hd => Nat.le_trans (weight_mem hd) z2
    have k : ∀ b ∈ A, b ∈ a :: A := fun b hb => List.mem_cons_of_mem _ hb
    refine ⟨a :: A, List.mem_cons_self .., fun b hb => ?_⟩
    rcases List.mem_cons.mp hb with e | m
    · rw [e]
      exact ⟨vs, line_of (by rw [wellAll_len hall]; exact Nat.le_trans (PySem.W.length_le_weightAllW ds) z2), fun u hu => (h1 u hu).mono k, .inl ho⟩
    · exact (h2 b m).mono k
  | .tuple ds, _, x, p, z => by
    obtain ⟨a, vs, rfl, ho, hall⟩ := well_tuple x
    have z2 : WData.weightAll ds ≤ 1048576 := z
    obtain ⟨A, h1, h2⟩ := area_all ds _ hall p fun d hd => Nat.le_trans (weight_mem hd) z2
    have k : ∀ b ∈ A, b ∈ a :: A := fun b hb => List.mem_cons_of_mem _ hb
    refine ⟨a :: A, List.mem_cons_self .., fun b hb => ?_⟩
    rcases List.mem_cons.mp hb with e | m
    · rw [e]
      exact ⟨vs, line_of (by rw [wellAll_len hall]; exact Nat.le_trans (PySem.W.length_le_weightAllW ds) z2), fun u hu => (h1 u hu).mono k, .inr ho⟩
    · exact (h2 b m).mono k
  | .float _, _, _, p, _ => Bool.noConfusion (show false = true from p)
  | .dict _, _, _, p, _ => Bool.noConfusion (show false = true from p)
  | .bytearray _, _, _, p, _ => Bool.noConfusion (show false = true from p)
  | .set _, _, _, p, _ => Bool.noConfusion (show false = true from p)
  | .frozenset _, _, _, p, _ => Bool.noConfusion (show false = true from p)
  | .obj _ _, _, _, p, _ => Bool.noConfusion (show false = true from p)
theorem area_all : ∀ (ds : List WData) (vs : List Value), WellAll P h vs ds → plWs ds = true → (∀ d ∈ ds, d.weight ≤ 1048576) → ∃ A : List Addr, (∀ u ∈ vs, OkU A u) ∧ ∀ a ∈ A, ArgOb h A a
  | [], _, x, _, _ => by
    cases x
    exact ⟨[], fun u m => absurd m (by simp), fun a m => absurd m (by simp)⟩
  | d :: ds, _, x, p, z => by
    obtain ⟨v, vs, rfl, x1, x2⟩ := well_cons x
    have q : plW d = true ∧ plWs ds = true := Bool.and_eq_true_iff.mp p
    obtain ⟨A, a1, a2⟩ := area_one d v x1 q.1 (z d (List.mem_cons_self ..))
    obtain ⟨B, b1, b2⟩ := area_all ds vs x2 q.2 fun e he => z e (List.mem_cons_of_mem _ he)
    have kA : ∀ b ∈ A, b ∈ A ++ B := fun b hb => List.mem_append.mpr (.inl hb)
    have kB : ∀ b ∈ B, b ∈ A ++ B := fun b hb => List.mem_append.mpr (.inr hb)
    refine ⟨A ++ B, fun u hu => ?_, fun b hb => ?_⟩
    · rcases List.mem_cons.mp hu with e | m
      · rw [e]
        exact a1.mono kA
      · exact (b1 u m).mono kB
    · rcases List.mem_append.mp hb with m | m
      · exact (a2 b m).mono kA
      · exact (b2 b m).mono kB
end
end
/-- what is tracked of an argument's object -/
def hoOf (o : Obj) : Option HO := match o.data with
  | .seq vs _ => if (o.cls == Value.type "list") = true then some (.frz o (.lst (vs.toList.map toV))) else some (.frz o (.tup (vs.toList.map toV)))
  | _ => none
def argH (K : PySem.W.Frag) (h : Heap) (A : List Addr) : Hp := fun b => if b ∈ A then (if (K.lookup b).isNone = true then (h.get? b).bind hoOf else none) else none
/-- nothing is tracked but what is known to the object -/
def OnlyF (H : Hp) : Prop := ∀ b, H b = none ∨ ∃ o u, H b = some (.frz o u)
theorem hoOf_lst (vs : List Value) : hoOf { cls := .type "list", data := .seq vs.toArray } = some (.frz { cls := .type "list", data := .seq vs.toArray } (.lst (vs.map toV))) := by
  show (if (Value.type "list" == Value.type "list") = true then some (HO.frz { cls := .type "list", data := .seq vs.toArray } (.lst (vs.toArray.toList.map toV))) else some (HO.frz { cls := .type "list", data := .seq vs.toArray } (.tup (vs.toArray.toList.map toV)))) = _
  rw [if_pos (beq_self_eq_true _)]
theorem hoOf_tup (vs : List Value) : hoOf { cls := .type "tuple", data := .seq vs.toArray } = some (.frz { cls := .type "tuple", data := .seq vs.toArray } (.tup (vs.map toV))) := by
  show (if (Value.type "tuple" == Value.type "list") = true then some (HO.frz { cls := .type "tuple", data := .seq vs.toArray } (.lst (vs.toArray.toList.map toV))) else some (HO.frz { cls := .type "tuple", data := .seq vs.toArray } (.tup (vs.toArray.toList.map toV)))) = _
  rw [if_neg (by decide)]
section
variable {P : Program} {w : World} {K : PySem.W.Frag} {h : Heap} {A : List Addr}
theorem argH_at {b : Addr} {o : Obj} (hb : b ∈ A) (hk : K.lookup b = none) (e : h.get? b = some o) : argH K h A b = hoOf o := by
  unfold argH
  rw [if_pos hb, hk, if_pos (show (none : Option Obj).isNone = true from rfl), e] <;> rfl
theorem of_argH {b : Addr} {u : HO} (q : argH K h A b = some u) : b ∈ A ∧ K.lookup b = none := by
  unfold argH at q
  by_cases hb : b ∈ A
  · rw [if_pos hb] at q
    cases hk : K.lookup b with
    | none => exact ⟨hb, rfl⟩
    | some o =>
      rw [hk, if_neg (by simp)] at q
      cases q
  · rw [if_neg hb] at q
    cases q
/-- what stands tracked -/
theorem argH_is (ar : ∀ a ∈ A, ArgOb h A a) {b : Addr} {u : HO} (q : argH K h A b = some u) : K.lookup b = none ∧ ∃ vs : List Value, vs.length ≤ sizeLine ∧ (∀ u ∈ vs, OkU A u) ∧
    ((h.get? b = some { cls := .type "list", data := .seq vs.toArray } ∧ u = .frz { cls := .type "list", data := .seq vs.toArray } (.lst (vs.map toV))) ∨
     (h.get? b = some { cls := .type "tuple", data := .seq vs.toArray } ∧ u = .frz { cls := .type "tuple", data := .seq vs.toArray } (.tup (vs.map toV)))) := by
  obtain ⟨hb, hk⟩ := of_argH q
  obtain ⟨vs, h1, h2, h3⟩ := ar b hb
  refine ⟨hk, vs, h1, h2, ?_⟩
  rcases h3 with e | e
  · rw [argH_at hb hk e, hoOf_lst] at q
    exact .inl ⟨e, (Option.some.inj q).symm⟩
  · rw [argH_at hb hk e, hoOf_tup] at q
    exact .inr ⟨e, (Option.some.inj q).symm⟩
theorem argH_only (ar : ∀ a ∈ A, ArgOb h A a) : OnlyF (argH K h A) := fun b => by
  cases q : argH K h A b with
  | none => exact .inl rfl
  | some u =>
    obtain ⟨_, vs, _, _, ⟨_, e⟩ | ⟨_, e⟩⟩ := argH_is ar q
    · exact .inr ⟨_, _, by rw [e]⟩
    · exact .inr ⟨_, _, by rw [e]⟩
theorem argH_ok (ar : ∀ a ∈ A, ArgOb h A a) : HOk P w (argH K h A) h := fun b u q => by
  obtain ⟨_, vs, h1, h2, ⟨e, rfl⟩ | ⟨e, rfl⟩⟩ := argH_is ar q
  · exact ⟨e, by rw [List.length_map]; exact h1, vs, _, vals_toV h2, e⟩
  · exact ⟨e, by rw [List.length_map]; exact h1, vs, vals_toV h2, _, e, rfl, _, rfl⟩
theorem seq_inj {c c' : Value} {vs us : List Value} (e : (some { cls := c, data := .seq vs.toArray } : Option Obj) = some { cls := c', data := .seq us.toArray }) : c = c' ∧ vs = us := by
  have e1 := Option.some.inj e
  have e2 : c = c' := congrArg Obj.cls e1
  have e3 : Data.seq vs.toArray = Data.seq us.toArray := congrArg Obj.data e1
  injection e3 with e4
  refine ⟨e2, ?_⟩
  have e5 := congrArg Array.toList e4
  simpa using e5
/-- a list argument -/
theorem argL (KX : K.In h) (ar : ∀ a ∈ A, ArgOb h A a) {a : Addr} {vs : List Value} (ha : a ∈ A) (e : h.get? a = some { cls := .type "list", data := .seq vs.toArray }) : (∀ u ∈ vs, OkU A u) ∧ SqL K (argH K h A) a (vs.map toV) := by
  obtain ⟨us, h1, h2, h3⟩ := ar a ha
  have hu : us = vs := by
    rcases h3 with q | q
    · rw [e] at q
      exact (seq_inj q).2.symm
    · rw [e] at q
      exact absurd (Value.type.inj (seq_inj q).1) (by decide)
  subst hu
  refine ⟨h2, ?_⟩
  cases hk : K.lookup a with
  | none => exact .inl (.inr ⟨_, by rw [argH_at ha hk e, hoOf_lst]⟩)
  | some o =>
    have e2 := KX a o hk
    rw [e] at e2
    obtain rfl := Option.some.inj e2
    exact .inr ⟨_, us.toArray, _, hk, rfl, rfl, rfl, by rw [List.size_toArray]; exact h1, by simpa using vals_toV h2⟩
theorem argT (KX : K.In h) (ar : ∀ a ∈ A, ArgOb h A a) {a : Addr} {vs : List Value} (ha : a ∈ A) (e : h.get? a = some { cls := .type "tuple", data := .seq vs.toArray }) : (∀ u ∈ vs, OkU A u) ∧ SqT K (argH K h A) a (vs.map toV) := by
  obtain ⟨us, h1, h2, h3⟩ := ar a ha
  have hu : us = vs := by
    rcases h3 with q | q
    · rw [e] at q
      exact absurd (Value.type.inj (seq_inj q).1) (by decide)
    · rw [e] at q
      exact (seq_inj q).2.symm
  subst hu
  refine ⟨h2, ?_⟩
  cases hk : K.lookup a with
  | none => exact .inl (.inr ⟨_, by rw [argH_at ha hk e, hoOf_tup]⟩)
  | some o =>
    have e2 := KX a o hk
    rw [e] at e2
    obtain rfl := Option.some.inj e2
    exact .inr ⟨_, us.toArray, _, hk, rfl, rfl, by rw [List.size_toArray]; exact h1, by simpa using vals_toV h2⟩
mutual
theorem dw_one {Pm : Params} (KX : K.In h) (ar : ∀ a ∈ A, ArgOb h A a) : ∀ (d : WData) (v : Value), Well Pm h v d → plW d = true → OkU A v → Dw K (argH K h A) (toV v) d
  | .none, _, x, _, _ => by
    cases x
    exact .non
  | .bool b, _, x, _, _ => by
    cases x
    exact .bl b
  | .int i, _, x, _, _ => by
    cases x
    exact .int i
  | .str s, _, x, _, _ => by
    cases x
    exact .str s
  | .bytes b, _, x, _, _ => by
    cases x
    have z := Dw.byt (K := K) (H := argH K h A) b.toArray
    exact z
  | .list ds, _, x, p, hu => by
    obtain ⟨a, vs, rfl, ho, hall⟩ := well_list x
    obtain ⟨h2, hs⟩ := argL KX ar hu ho
    exact .lst hs (dw_all KX ar ds _ hall p h2)
  | .tuple ds, _, x, p, hu => by
    obtain ⟨a, vs, rfl, ho, hall⟩ := well_tuple x
    obtain ⟨h2, hs⟩ := argT KX ar hu ho
    exact .tup hs (dw_all KX ar ds _ hall p h2)
  | .float _, _, _, p, _ => Bool.noConfusion (show false = true from p)
  | .dict _, _, _, p, _ => Bool.noConfusion (show false = true from p)
  | .bytearray _, _, _, p, _ => Bool.noConfusion (show false = true from p)
  | .set _, _, _, p, _ => Bool.noConfusion (show false = true from p)
  | .frozenset _, _, _, p, _ => Bool.noConfusion (show false = true from p)
  | .obj _ _, _, _, p, _ => Bool.noConfusion (show false = true from p)
theorem dw_all {Pm : Params} (KX : K.In h) (ar : ∀ a ∈ A, ArgOb h A a) : ∀ (ds : List WData) (vs : List Value), WellAll Pm h vs ds → plWs ds = true → (∀ u ∈ vs, OkU A u) → DwAll K (argH K h A) (vs.map toV) ds
  | [], _, x, _, _ => by
    cases x
    exact .nil
  | d :: ds, _, x, p, hu => by
    obtain ⟨v, vs, rfl, x1, x2⟩ := well_cons x
    have q : plW d = true ∧ plWs ds = true := Bool.and_eq_true_iff.mp p
    exact .cons (dw_one KX ar d v x1 q.1 (hu _ (List.mem_cons_self ..))) (dw_all KX ar ds vs x2 q.2 fun u m => hu u (List.mem_cons_of_mem _ m))
end
end
/-! ### the call -/
theorem spec_call {P : Program} {w : World} {K : PySem.W.Frag} {mg mb : Str → Option Value} {CX : CXT} {k : Nat} {fa : Addr} {fd : FuncData} {ps : List Str} {sp : Sp} {s₁ : Shared} {vals : List Value} {ds : List WData} {R : PySem.W.WRecords} {cl : Str → Option Addr} {d0 : WData}
    (KX : K.In s₁.heap) (hns : s₁.heap.Ns mainGlobals mg) (hb : s₁.heap.Ns builtinsNs mb) (hbb : ∀ x : Str, x ≠ "__name__" → mb x = bootBuiltins x) (hlim : s₁.heap.NoLimit) (hg : s₁.gens = #[])
    (hwl : WellAll w.params s₁.heap vals ds) (hpl : plWs ds = true) (hwt : ∀ d ∈ ds, d.weight ≤ 1048576) (hr : Room k callerA)
    (F : ∀ base : Heap, K.In base → base.Ns mainGlobals mg → FnOk P w K mg base CX k fa fd ps sp) (hbind : ∀ (s : Shared) (us : List Value), us.length = ps.length → BindsTo s fd ⟨us, []⟩ (ps.zip us)) (hlen : ds.length = ps.length)
    (hsp : ∀ (H : Hp) (xs : List V), OnlyF H → DwAll K H xs ds → sp xs H (fun v H' => Dw K H' v d0) fun _ _ _ => False)
    (hCX : ∀ H e s', CX [] H s₁ (fun _ _ _ => False) e s' → False) :
    codeAny (model P w) callerA (.call (.ref fa) ⟨vals, []⟩) (fun r s' => ∃ u as, r = .ok (.ret u) ∧ ReadsW R cl s'.heap u d0 as ∧ OldK s₁.heap s'.heap ∧ s'.os = s₁.os ∧ AllBare s'.gens) s₁ := by
  obtain ⟨A, ho, ar⟩ := area_all ds vals hwl hpl hwt
  have hO : OnlyF (argH K s₁.heap A) := argH_only ar
  have hok : HOk P w (argH K s₁.heap A) s₁.heap := argH_ok ar
  have hS := dw_all KX ar ds vals hwl hpl ho
  have hV := vals_toV ho
  have hK : ∀ b u, argH K s₁.heap A b = some u → K.lookup b = none := fun b u q => (argH_is ar q).1
  have noA : ∀ {b : Addr} {o : Obj} {es : Array DictEntry} {ep : Nat}, s₁.heap.get? b = some o → o.data = .dict es ep → argH K s₁.heap A b = none := fun {b o es ep} e d => by
    cases q : argH K s₁.heap A b with
    | none => rfl
    | some u =>
      obtain ⟨_, vs, _, _, ⟨e2, _⟩ | ⟨e2, _⟩⟩ := argH_is ar q
      · rw [e2] at e
        cases e
        have d' : Data.seq vs.toArray _ = Data.dict es ep := d
        cases d'
      · rw [e2] at e
        cases e
        have d' : Data.seq vs.toArray _ = Data.dict es ep := d
        cases d'
  generalize argH K s₁.heap A = H at hO hok hS hK noA
  have base_of : ∀ {b : Addr} {o : Obj}, s₁.heap.get? b = some o → H b = none → (hidT s₁.heap H).get? b = some o := fun e n => hidT_get e n
  have nsK : ∀ {b : Addr} {m : Str → Option Value}, s₁.heap.Ns b m → (hidT s₁.heap H).Ns b m := fun {b m} ⟨o, es, ep, e, d, r⟩ => ⟨o, es, ep, base_of e (noA e d), d, r⟩
  have nK : ∀ b o, K.lookup b = some o → H b = none := fun b o e => by
    cases q : H b with
    | none => rfl
    | some u =>
      rw [hK b u q] at e
      cases e
  have hKb : K.In (hidT s₁.heap H) := fun b o e => base_of (KX b o e) (nK b o e)
  have hM : Mod K mg (hidT s₁.heap H) := ⟨hKb, nsK hns, ⟨mb, nsK hb, hbb⟩, let ⟨mc, h1, h2⟩ := hlim; ⟨mc, nsK h1, h2⟩⟩
  have e0 : Env0 P w K mg (hidT s₁.heap H) callerA [] s₁ H := ⟨rfl, hM, fun b o e => of_hidT e, Nat.le_of_eq (hidT_size _ _), trivial, fun b hb => absurd (show b ∈ ([] : List Addr) from hb) (by simp), hok, .of_eq hg⟩
  have hl : vals.length = ps.length := by rw [wellAll_len hwl]; exact hlen
  refine codeAny_mono ((F _ hKb (nsK hns)).run callerA [] s₁ H ⟨vals, []⟩ vals (vals.map toV) _ _ hr e0 (hbind s₁ vals hl) hV (hsp H _ hO hS)) fun r s' x => ?_
  cases r with
  | error e => exact (hCX H e s' x).elim
  | ok fl =>
    cases fl with
    | next => exact False.elim x
    | brk => exact False.elim x
    | cont => exact False.elim x
    | ret u =>
      obtain ⟨v, H', os, bare, un, hok', r', q⟩ := x
      have kept : ∀ b o, s₁.heap.get? b = some o → s'.heap.get? b = some o := fun b o e => by
        cases q2 : H b with
        | none => exact un.keep b o e q2 (by intro z; exact absurd (show b ∈ ([] : List Addr) from z) (by simp)) (by simp)
        | some u2 =>
          rcases hO b with z | ⟨ob, u3, z⟩
          · rw [q2] at z
            cases z
          · have z2 := un.frzs b ob _ z
            obtain ⟨e1, _⟩ := hok b _ z
            obtain ⟨e2, _⟩ := hok' b _ z2
            rw [e] at e1
            cases e1
            exact e2
      have KX' : K.In s'.heap := fun b o e => kept b o (KX b o e)
      obtain ⟨as, hrd⟩ := Dw.reads (R := R) (cl := cl) hok' KX' d0 v u q r'
      exact ⟨u, as, rfl, hrd, OldK.of_keep kept, os, bare⟩
/-! ### the row -/
theorem layable_weight {ds : List WData} (h : WData.layableAll ds = true) : ∀ d ∈ ds, d.weight ≤ 1048576 := fun d hd =>
  (PySem.W.layableW_iff.mp (List.all_eq_true.mp h d hd)).2.2
theorem encAll_len : ∀ (cs : List Codec) (a : Codec.denoteAll cs), (Codec.encAll cs a).length = cs.length
  | [], _ => rfl
  | c :: cs, a => by
    show (Codec.encAll cs a.2).length + 1 = cs.length + 1
    rw [encAll_len cs a.2]
/-- the goal that k_headS leaves (case hc), from the promise of the row's def: whatever the arguments that the codecs let and the row asks for, the def gives what stands for enc (f ..) -/
theorem walk_spec {r : OpenSpec} {k : Nat} {q : Program} {loose : List Str} {XP : (Str → Option Value) → Heap → Prop} {YP : World → Heap → Prop} {d : DefRec} {K : Params → PySem.W.Frag} {CX : World → CXT} {ps : List Str} {sp : World → Sp}
    (hwell : r.wellSaid = true) (hdf : d.params.defaults = []) (hlen : r.args.length = ps.length) (hr : Room k callerA)
    (hY : ∀ (w : World) (h : Heap), YP w h → (K w.params).In h)
    (F : ∀ (w : World) (mg : Str → Option Value) (fa : Addr) (h : Heap), YP w h → (K w.params).In h → h.Ns mainGlobals mg → mg d.name = some (.ref fa) →
      ∃ fd : FuncData, (∀ (s : Shared) (us : List Value), us.length = ps.length → BindsTo s fd ⟨us, []⟩ (ps.zip us)) ∧
        ∀ base : Heap, (K w.params).In base → base.Ns mainGlobals mg → FnOk r.prog w (K w.params) mg base (CX w) k fa fd ps (sp w))
    (hsp : ∀ (w : World) (H : Hp) (xs : List V) (a : Codec.denoteAll r.args), OnlyF H → Codec.withinAll r.args a = true → Codec.app r.args r.asked a = true → DwAll (K w.params) H xs (Codec.encAll r.args a) →
      sp w xs H (fun v H' => Dw (K w.params) H' v (r.ret.enc (Codec.app r.args r.f a))) fun _ _ _ => False)
    (hCX : ∀ (w : World) (H : Hp) (s : Shared) (e : Value) (s' : Shared), CX w [] H s (fun _ _ _ => False) e s' → False) :
    PySem.W.WalkOS q loose XP YP r d [] (fun f vs => PySem.call f vs) := by
  intro w s_0 s₁ mg mb G Y fa o pm cd doc dV kV ho hd hcd hD hmg hg args vals as hpre hlay hrd hwl hlo
  obtain ⟨a, e1, e2⟩ := PySem.W.os_pre_some hpre
  obtain ⟨e3, hwi⟩ := Codec.encAll_of_decAll r.args args a e1
  subst e3
  have KX := hY w _ Y
  obtain ⟨fd, hb, hF⟩ := F w mg fa _ Y KX G.T.g hmg
  refine PySem.W.enter_call (codeAny_mono (spec_call (R := []) (cl := classAt s_0.heap) (d0 := r.ret.enc (Codec.app r.args r.f a)) KX G.T.g G.T.b G.T.builtins G.T.nolimit hg hwl (pl_encAll _ _) (layable_weight hlay) hr hF hb (by rw [encAll_len]; exact hlen)
    (fun H xs hO hS => hsp w H xs a hO hwi e2 hS) fun H e s' => hCX w H s₁ e s') fun r' s' hq => ?_)
  obtain ⟨u, as', rfl, h1, h2, h3, h4⟩ := hq
  exact ⟨.inl ⟨u, _, as', rfl, fun _ => rfl, h1, (OpenSpec.post_iff hwell hwi _ _).mpr rfl, fun z => Bool.noConfusion (show false = true from z)⟩, h2, h3, h4⟩
/-- the same where the promise hangs on the written part alone -/
theorem walk_specK {r : OpenSpec} {k : Nat} {q : Program} {loose : List Str} {XP : (Str → Option Value) → Heap → Prop} {YP : World → Heap → Prop} {d : DefRec} {K : Params → PySem.W.Frag} {CX : CXT} {ps : List Str} {sp : PySem.W.Frag → Sp}
    (hwell : r.wellSaid = true) (hdf : d.params.defaults = []) (hlen : r.args.length = ps.length) (hr : Room k callerA)
    (hY : ∀ (w : World) (h : Heap), YP w h → (K w.params).In h)
    (F : ∀ (w : World) (mg : Str → Option Value) (fa : Addr) (h : Heap), YP w h → (K w.params).In h → h.Ns mainGlobals mg → mg d.name = some (.ref fa) →
      ∃ fd : FuncData, (∀ (s : Shared) (us : List Value), us.length = ps.length → BindsTo s fd ⟨us, []⟩ (ps.zip us)) ∧
        ∀ base : Heap, (K w.params).In base → base.Ns mainGlobals mg → FnOk r.prog w (K w.params) mg base CX k fa fd ps (sp (K w.params)))
    (hsp : ∀ (K : PySem.W.Frag) (H : Hp) (xs : List V) (a : Codec.denoteAll r.args), OnlyF H → Codec.withinAll r.args a = true → Codec.app r.args r.asked a = true → DwAll K H xs (Codec.encAll r.args a) →
      sp K xs H (fun v H' => Dw K H' v (r.ret.enc (Codec.app r.args r.f a))) fun _ _ _ => False)
    (hCX : ∀ (H : Hp) (s : Shared) (e : Value) (s' : Shared), CX [] H s (fun _ _ _ => False) e s' → False) :
    PySem.W.WalkOS q loose XP YP r d [] (fun f vs => PySem.call f vs) :=
  walk_spec (K := K) (CX := fun _ => CX) (sp := fun w => sp (K w.params)) hwell hdf hlen hr hY F (fun w H xs a h1 h2 h3 h4 => hsp (K w.params) H xs a h1 h2 h3 h4) fun _ H s e s' => hCX H s e s'
end L2
-- rests on (row put in by the clerk, for the bench that shows a file only what it spells): KE.SpHead KE.OsShapes
end
set_option Elab.async false
set_option linter.all false
set_option maxRecDepth 100000
set_option maxHeartbeats 4000000
namespace Rv
open PySem PySem.Spec PyProof.Rows L2 RvM
open PySem.W (Codec)
theorem all_mk {P : Program} {w : World} {K : PySem.W.Frag} {h : Heap} {mg : Str → Option Value} {fa C_People C_Rover C_Line f_sides_fit f_is_cost f_neighbours f_all_neighbours f_weight f_lightest f_taken f_second_cell f_message f_send f_number_of f_is_framed f_is_keep_out f_is_had f_is_seen f_is_answer f_People___init__ f_People_waits f_People_avoid f_People_send_keep_out f_People_hear f_People_hear_seen f_People_hear_answer f_People_tick f_People_whole_map f_People_state f_Rover___init__ f_Rover_step f_Rover_unknown_in_sight f_Rover_look f_Rover_weigh f_Rover_choose_goal f_Rover_go f_Rover_send_seen f_Rover_hear f_Rover_hear_keep_out f_Rover_can_keep_out f_Rover_hear_had f_Rover_tick f_Rover_state f_Line___init__ f_Line_start_rover f_Line_start_people f_Line_answer f_Line_answer_on_rover f_Line_answer_on_people f_has_row f_answers p_PLAIN_LENGTHS : Addr} {t_CLOSED t_HIGHEST_COST t_LONGEST_SIDE t_MOST_CELLS t_SHARE t_KEEP_OUT t_HAD t_SEEN t_ANSWER t_LENGTH t_MOST_NUMBER t_NO t_YES t_SENT t_TICKS_APART t_BAD_VALUE t_BAD_MESSAGE t_NOT_ANSWERED t_NO_NUMBER_LEFT t_LOOKED t_TO_GOAL t_TO_HOME t_FILLED t_NOTHING t_SAW t_WENT t_CHARGED t_RV_START t_RV_STEP t_RV_HEARD t_RV_TICK t_RV_STATE t_BS_START t_BS_AVOID t_BS_HEARD t_BS_TICK t_BS_MAP t_BS_STATE t_MOST_ROOM : Tok} (X : K.In h) (G0 : h.Ns mainGlobals mg) (hfa : mg "answers" = some (.ref fa))
    {od0 an0 : Option Addr} {sl0 : Array (Option Value)} {oc0 kV0 dc0 pm0 cd0 ct0 : Value}
    {od1 an1 : Option Addr} {sl1 : Array (Option Value)} {oc1 kV1 dc1 pm1 cd1 ct1 : Value}
    {od2 an2 : Option Addr} {sl2 : Array (Option Value)} {oc2 kV2 dc2 pm2 cd2 ct2 : Value}
    {od3 an3 : Option Addr} {sl3 : Array (Option Value)} {oc3 kV3 dc3 pm3 cd3 ct3 : Value}
    {od4 an4 : Option Addr} {sl4 : Array (Option Value)} {oc4 kV4 dc4 pm4 cd4 ct4 : Value}
    {od5 an5 : Option Addr} {sl5 : Array (Option Value)} {oc5 kV5 dc5 pm5 cd5 ct5 : Value}
    {od6 an6 : Option Addr} {sl6 : Array (Option Value)} {oc6 kV6 dc6 pm6 cd6 ct6 : Value}
    {od7 an7 : Option Addr} {sl7 : Array (Option Value)} {oc7 kV7 dc7 pm7 cd7 ct7 : Value}
    {od8 an8 : Option Addr} {sl8 : Array (Option Value)} {oc8 kV8 dc8 pm8 cd8 ct8 : Value}
    {od9 an9 : Option Addr} {sl9 : Array (Option Value)} {oc9 kV9 dc9 pm9 cd9 ct9 : Value}
    {od10 an10 : Option Addr} {sl10 : Array (Option Value)} {oc10 kV10 dc10 pm10 cd10 ct10 : Value}
    {od11 an11 : Option Addr} {sl11 : Array (Option Value)} {oc11 kV11 dc11 pm11 cd11 ct11 : Value}
    {od12 an12 : Option Addr} {sl12 : Array (Option Value)} {oc12 kV12 dc12 pm12 cd12 ct12 : Value}
    {od13 an13 : Option Addr} {sl13 : Array (Option Value)} {oc13 kV13 dc13 pm13 cd13 ct13 : Value}
    {od14 an14 : Option Addr} {sl14 : Array (Option Value)} {oc14 kV14 dc14 pm14 cd14 ct14 : Value}
    {od15 an15 : Option Addr} {sl15 : Array (Option Value)} {oc15 kV15 dc15 pm15 cd15 ct15 : Value}
    {od16 an16 : Option Addr} {sl16 : Array (Option Value)} {oc16 kV16 dc16 pm16 cd16 ct16 : Value}
    {od17 an17 : Option Addr} {sl17 : Array (Option Value)} {oc17 kV17 dc17 pm17 cd17 ct17 : Value}
    {od18 an18 : Option Addr} {sl18 : Array (Option Value)} {oc18 kV18 dc18 pm18 cd18 ct18 : Value}
    {od19 an19 : Option Addr} {sl19 : Array (Option Value)} {oc19 kV19 dc19 pm19 cd19 ct19 : Value}
    {od20 an20 : Option Addr} {sl20 : Array (Option Value)} {oc20 kV20 dc20 pm20 cd20 ct20 : Value}
    {od21 an21 : Option Addr} {sl21 : Array (Option Value)} {oc21 kV21 dc21 pm21 cd21 ct21 : Value}
    {od22 an22 : Option Addr} {sl22 : Array (Option Value)} {oc22 kV22 dc22 pm22 cd22 ct22 : Value}
    {od23 an23 : Option Addr} {sl23 : Array (Option Value)} {oc23 kV23 dc23 pm23 cd23 ct23 : Value}
    {od24 an24 : Option Addr} {sl24 : Array (Option Value)} {oc24 kV24 dc24 pm24 cd24 ct24 : Value}
    {od25 an25 : Option Addr} {sl25 : Array (Option Value)} {oc25 kV25 dc25 pm25 cd25 ct25 : Value}
    {od26 an26 : Option Addr} {sl26 : Array (Option Value)} {oc26 kV26 dc26 pm26 cd26 ct26 : Value}
    {od27 an27 : Option Addr} {sl27 : Array (Option Value)} {oc27 kV27 dc27 pm27 cd27 ct27 : Value}
    {od28 an28 : Option Addr} {sl28 : Array (Option Value)} {oc28 kV28 dc28 pm28 cd28 ct28 : Value}
    {od29 an29 : Option Addr} {sl29 : Array (Option Value)} {oc29 kV29 dc29 pm29 cd29 ct29 : Value}
    {od30 an30 : Option Addr} {sl30 : Array (Option Value)} {oc30 kV30 dc30 pm30 cd30 ct30 : Value}
    {od31 an31 : Option Addr} {sl31 : Array (Option Value)} {oc31 kV31 dc31 pm31 cd31 ct31 : Value}
    {od32 an32 : Option Addr} {sl32 : Array (Option Value)} {oc32 kV32 dc32 pm32 cd32 ct32 : Value}
    {od33 an33 : Option Addr} {sl33 : Array (Option Value)} {oc33 kV33 dc33 pm33 cd33 ct33 : Value}
    {od34 an34 : Option Addr} {sl34 : Array (Option Value)} {oc34 kV34 dc34 pm34 cd34 ct34 : Value}
    {od35 an35 : Option Addr} {sl35 : Array (Option Value)} {oc35 kV35 dc35 pm35 cd35 ct35 : Value}
    {od36 an36 : Option Addr} {sl36 : Array (Option Value)} {oc36 kV36 dc36 pm36 cd36 ct36 : Value}
    {od37 an37 : Option Addr} {sl37 : Array (Option Value)} {oc37 kV37 dc37 pm37 cd37 ct37 : Value}
    {od38 an38 : Option Addr} {sl38 : Array (Option Value)} {oc38 kV38 dc38 pm38 cd38 ct38 : Value}
    {od39 an39 : Option Addr} {sl39 : Array (Option Value)} {oc39 kV39 dc39 pm39 cd39 ct39 : Value}
    {od40 an40 : Option Addr} {sl40 : Array (Option Value)} {oc40 kV40 dc40 pm40 cd40 ct40 : Value}
    {od41 an41 : Option Addr} {sl41 : Array (Option Value)} {oc41 kV41 dc41 pm41 cd41 ct41 : Value}
    {od42 an42 : Option Addr} {sl42 : Array (Option Value)} {oc42 kV42 dc42 pm42 cd42 ct42 : Value}
    {od43 an43 : Option Addr} {sl43 : Array (Option Value)} {oc43 kV43 dc43 pm43 cd43 ct43 : Value}
    {od44 an44 : Option Addr} {sl44 : Array (Option Value)} {oc44 kV44 dc44 pm44 cd44 ct44 : Value}
    {od45 an45 : Option Addr} {sl45 : Array (Option Value)} {oc45 kV45 dc45 pm45 cd45 ct45 : Value}
    {od46 an46 : Option Addr} {sl46 : Array (Option Value)} {oc46 kV46 dc46 pm46 cd46 ct46 : Value}
    {od47 an47 : Option Addr} {sl47 : Array (Option Value)} {oc47 kV47 dc47 pm47 cd47 ct47 : Value}
    {od_PLAIN_LENGTHS : Option Addr} {n_PLAIN_LENGTHS : Nat} {sl_PLAIN_LENGTHS : Array (Option Value)} {t_PLAIN_LENGTHS0 t_PLAIN_LENGTHS1 t_PLAIN_LENGTHS2 t_PLAIN_LENGTHS3 t_PLAIN_LENGTHS4 t_PLAIN_LENGTHS5 t_PLAIN_LENGTHS6 t_PLAIN_LENGTHS7 t_PLAIN_LENGTHS8 t_PLAIN_LENGTHS9 t_PLAIN_LENGTHS10 : Tok}
    (n_People : PySem.W.nsIn K mainGlobals "People" = some (some (.ref C_People)))
    (n_Rover : PySem.W.nsIn K mainGlobals "Rover" = some (some (.ref C_Rover)))
    (n_Line : PySem.W.nsIn K mainGlobals "Line" = some (some (.ref C_Line)))
    (a_sides_fit : PySem.W.nsIn K mainGlobals "sides_fit" = some (some (.ref f_sides_fit)))
    (l_sides_fit : K.lookup f_sides_fit = some ⟨oc0, od0, .func (PySem.W.fnOf "sides_fit" "sides_fit" (defArgs (top 6)) (defBody (top 6)) (defScope (top 6)) .none kV0 dc0 pm0 an0 cd0 ct0), sl0⟩)
    (c_sides_fit : PySem.W.codeIn K cd0 "sides_fit" = true)
    (k_sides_fit : PySem.W.keepIn K (.ref f_sides_fit) = true)
    (a_is_cost : PySem.W.nsIn K mainGlobals "is_cost" = some (some (.ref f_is_cost)))
    (l_is_cost : K.lookup f_is_cost = some ⟨oc1, od1, .func (PySem.W.fnOf "is_cost" "is_cost" (defArgs (top 7)) (defBody (top 7)) (defScope (top 7)) .none kV1 dc1 pm1 an1 cd1 ct1), sl1⟩)
    (c_is_cost : PySem.W.codeIn K cd1 "is_cost" = true)
    (k_is_cost : PySem.W.keepIn K (.ref f_is_cost) = true)
    (a_neighbours : PySem.W.nsIn K mainGlobals "neighbours" = some (some (.ref f_neighbours)))
    (l_neighbours : K.lookup f_neighbours = some ⟨oc2, od2, .func (PySem.W.fnOf "neighbours" "neighbours" (defArgs (top 8)) (defBody (top 8)) (defScope (top 8)) .none kV2 dc2 pm2 an2 cd2 ct2), sl2⟩)
    (c_neighbours : PySem.W.codeIn K cd2 "neighbours" = true)
    (k_neighbours : PySem.W.keepIn K (.ref f_neighbours) = true)
    (a_all_neighbours : PySem.W.nsIn K mainGlobals "all_neighbours" = some (some (.ref f_all_neighbours)))
    (l_all_neighbours : K.lookup f_all_neighbours = some ⟨oc3, od3, .func (PySem.W.fnOf "all_neighbours" "all_neighbours" (defArgs (top 9)) (defBody (top 9)) (defScope (top 9)) .none kV3 dc3 pm3 an3 cd3 ct3), sl3⟩)
    (c_all_neighbours : PySem.W.codeIn K cd3 "all_neighbours" = true)
    (k_all_neighbours : PySem.W.keepIn K (.ref f_all_neighbours) = true)
    (a_weight : PySem.W.nsIn K mainGlobals "weight" = some (some (.ref f_weight)))
    (l_weight : K.lookup f_weight = some ⟨oc4, od4, .func (PySem.W.fnOf "weight" "weight" (defArgs (top 10)) (defBody (top 10)) (defScope (top 10)) .none kV4 dc4 pm4 an4 cd4 ct4), sl4⟩)
    (c_weight : PySem.W.codeIn K cd4 "weight" = true)
    (k_weight : PySem.W.keepIn K (.ref f_weight) = true)
    (a_lightest : PySem.W.nsIn K mainGlobals "lightest" = some (some (.ref f_lightest)))
    (l_lightest : K.lookup f_lightest = some ⟨oc5, od5, .func (PySem.W.fnOf "lightest" "lightest" (defArgs (top 11)) (defBody (top 11)) (defScope (top 11)) .none kV5 dc5 pm5 an5 cd5 ct5), sl5⟩)
    (c_lightest : PySem.W.codeIn K cd5 "lightest" = true)
    (k_lightest : PySem.W.keepIn K (.ref f_lightest) = true)
    (a_taken : PySem.W.nsIn K mainGlobals "taken" = some (some (.ref f_taken)))
    (l_taken : K.lookup f_taken = some ⟨oc6, od6, .func (PySem.W.fnOf "taken" "taken" (defArgs (top 12)) (defBody (top 12)) (defScope (top 12)) .none kV6 dc6 pm6 an6 cd6 ct6), sl6⟩)
    (c_taken : PySem.W.codeIn K cd6 "taken" = true)
    (k_taken : PySem.W.keepIn K (.ref f_taken) = true)
    (a_second_cell : PySem.W.nsIn K mainGlobals "second_cell" = some (some (.ref f_second_cell)))
    (l_second_cell : K.lookup f_second_cell = some ⟨oc7, od7, .func (PySem.W.fnOf "second_cell" "second_cell" (defArgs (top 13)) (defBody (top 13)) (defScope (top 13)) .none kV7 dc7 pm7 an7 cd7 ct7), sl7⟩)
    (c_second_cell : PySem.W.codeIn K cd7 "second_cell" = true)
    (k_second_cell : PySem.W.keepIn K (.ref f_second_cell) = true)
    (a_message : PySem.W.nsIn K mainGlobals "message" = some (some (.ref f_message)))
    (l_message : K.lookup f_message = some ⟨oc8, od8, .func (PySem.W.fnOf "message" "message" (defArgs (top 25)) (defBody (top 25)) (defScope (top 25)) .none kV8 dc8 pm8 an8 cd8 ct8), sl8⟩)
    (c_message : PySem.W.codeIn K cd8 "message" = true)
    (k_message : PySem.W.keepIn K (.ref f_message) = true)
    (a_send : PySem.W.nsIn K mainGlobals "send" = some (some (.ref f_send)))
    (l_send : K.lookup f_send = some ⟨oc9, od9, .func (PySem.W.fnOf "send" "send" (defArgs (top 26)) (defBody (top 26)) (defScope (top 26)) .none kV9 dc9 pm9 an9 cd9 ct9), sl9⟩)
    (c_send : PySem.W.codeIn K cd9 "send" = true)
    (k_send : PySem.W.keepIn K (.ref f_send) = true)
    (a_number_of : PySem.W.nsIn K mainGlobals "number_of" = some (some (.ref f_number_of)))
    (l_number_of : K.lookup f_number_of = some ⟨oc10, od10, .func (PySem.W.fnOf "number_of" "number_of" (defArgs (top 27)) (defBody (top 27)) (defScope (top 27)) .none kV10 dc10 pm10 an10 cd10 ct10), sl10⟩)
    (c_number_of : PySem.W.codeIn K cd10 "number_of" = true)
    (k_number_of : PySem.W.keepIn K (.ref f_number_of) = true)
    (a_is_framed : PySem.W.nsIn K mainGlobals "is_framed" = some (some (.ref f_is_framed)))
    (l_is_framed : K.lookup f_is_framed = some ⟨oc11, od11, .func (PySem.W.fnOf "is_framed" "is_framed" (defArgs (top 28)) (defBody (top 28)) (defScope (top 28)) .none kV11 dc11 pm11 an11 cd11 ct11), sl11⟩)
    (c_is_framed : PySem.W.codeIn K cd11 "is_framed" = true)
    (k_is_framed : PySem.W.keepIn K (.ref f_is_framed) = true)
    (a_is_keep_out : PySem.W.nsIn K mainGlobals "is_keep_out" = some (some (.ref f_is_keep_out)))
    (l_is_keep_out : K.lookup f_is_keep_out = some ⟨oc12, od12, .func (PySem.W.fnOf "is_keep_out" "is_keep_out" (defArgs (top 29)) (defBody (top 29)) (defScope (top 29)) .none kV12 dc12 pm12 an12 cd12 ct12), sl12⟩)
    (c_is_keep_out : PySem.W.codeIn K cd12 "is_keep_out" = true)
    (k_is_keep_out : PySem.W.keepIn K (.ref f_is_keep_out) = true)
    (a_is_had : PySem.W.nsIn K mainGlobals "is_had" = some (some (.ref f_is_had)))
    (l_is_had : K.lookup f_is_had = some ⟨oc13, od13, .func (PySem.W.fnOf "is_had" "is_had" (defArgs (top 30)) (defBody (top 30)) (defScope (top 30)) .none kV13 dc13 pm13 an13 cd13 ct13), sl13⟩)
    (c_is_had : PySem.W.codeIn K cd13 "is_had" = true)
    (k_is_had : PySem.W.keepIn K (.ref f_is_had) = true)
    (a_is_seen : PySem.W.nsIn K mainGlobals "is_seen" = some (some (.ref f_is_seen)))
    (l_is_seen : K.lookup f_is_seen = some ⟨oc14, od14, .func (PySem.W.fnOf "is_seen" "is_seen" (defArgs (top 31)) (defBody (top 31)) (defScope (top 31)) .none kV14 dc14 pm14 an14 cd14 ct14), sl14⟩)
    (c_is_seen : PySem.W.codeIn K cd14 "is_seen" = true)
    (k_is_seen : PySem.W.keepIn K (.ref f_is_seen) = true)
    (a_is_answer : PySem.W.nsIn K mainGlobals "is_answer" = some (some (.ref f_is_answer)))
    (l_is_answer : K.lookup f_is_answer = some ⟨oc15, od15, .func (PySem.W.fnOf "is_answer" "is_answer" (defArgs (top 32)) (defBody (top 32)) (defScope (top 32)) .none kV15 dc15 pm15 an15 cd15 ct15), sl15⟩)
    (c_is_answer : PySem.W.codeIn K cd15 "is_answer" = true)
    (k_is_answer : PySem.W.keepIn K (.ref f_is_answer) = true)
    (a_People___init__ : PySem.W.findIn K (.ref C_People) "__init__" = some (some (.ref f_People___init__)))
    (i_People___init__ : PySem.W.isFn K (.ref f_People___init__) = true)
    (l_People___init__ : K.lookup f_People___init__ = some ⟨oc16, od16, .func (PySem.W.fnOf "__init__" "People.__init__" (defArgs (inClass (top 38) 0)) (defBody (inClass (top 38) 0)) (defScope (inClass (top 38) 0)) .none kV16 dc16 pm16 an16 cd16 ct16), sl16⟩)
    (c_People___init__ : PySem.W.codeIn K cd16 "People.__init__" = true)
    (k_People___init__ : PySem.W.keepIn K (.ref f_People___init__) = true)
    (a_People_waits : PySem.W.findIn K (.ref C_People) "waits" = some (some (.ref f_People_waits)))
    (i_People_waits : PySem.W.isFn K (.ref f_People_waits) = true)
    (l_People_waits : K.lookup f_People_waits = some ⟨oc17, od17, .func (PySem.W.fnOf "waits" "People.waits" (defArgs (inClass (top 38) 1)) (defBody (inClass (top 38) 1)) (defScope (inClass (top 38) 1)) .none kV17 dc17 pm17 an17 cd17 ct17), sl17⟩)
    (c_People_waits : PySem.W.codeIn K cd17 "People.waits" = true)
    (k_People_waits : PySem.W.keepIn K (.ref f_People_waits) = true)
    (a_People_avoid : PySem.W.findIn K (.ref C_People) "avoid" = some (some (.ref f_People_avoid)))
    (i_People_avoid : PySem.W.isFn K (.ref f_People_avoid) = true)
    (l_People_avoid : K.lookup f_People_avoid = some ⟨oc18, od18, .func (PySem.W.fnOf "avoid" "People.avoid" (defArgs (inClass (top 38) 2)) (defBody (inClass (top 38) 2)) (defScope (inClass (top 38) 2)) .none kV18 dc18 pm18 an18 cd18 ct18), sl18⟩)
    (c_People_avoid : PySem.W.codeIn K cd18 "People.avoid" = true)
    (k_People_avoid : PySem.W.keepIn K (.ref f_People_avoid) = true)
    (a_People_send_keep_out : PySem.W.findIn K (.ref C_People) "send_keep_out" = some (some (.ref f_People_send_keep_out)))
    (i_People_send_keep_out : PySem.W.isFn K (.ref f_People_send_keep_out) = true)
    (l_People_send_keep_out : K.lookup f_People_send_keep_out = some ⟨oc19, od19, .func (PySem.W.fnOf "send_keep_out" "People.send_keep_out" (defArgs (inClass (top 38) 3)) (defBody (inClass (top 38) 3)) (defScope (inClass (top 38) 3)) .none kV19 dc19 pm19 an19 cd19 ct19), sl19⟩)
    (c_People_send_keep_out : PySem.W.codeIn K cd19 "People.send_keep_out" = true)
    (k_People_send_keep_out : PySem.W.keepIn K (.ref f_People_send_keep_out) = true)
    (a_People_hear : PySem.W.findIn K (.ref C_People) "hear" = some (some (.ref f_People_hear)))
    (i_People_hear : PySem.W.isFn K (.ref f_People_hear) = true)
    (l_People_hear : K.lookup f_People_hear = some ⟨oc20, od20, .func (PySem.W.fnOf "hear" "People.hear" (defArgs (inClass (top 38) 4)) (defBody (inClass (top 38) 4)) (defScope (inClass (top 38) 4)) .none kV20 dc20 pm20 an20 cd20 ct20), sl20⟩)
    (c_People_hear : PySem.W.codeIn K cd20 "People.hear" = true)
    (k_People_hear : PySem.W.keepIn K (.ref f_People_hear) = true)
    (a_People_hear_seen : PySem.W.findIn K (.ref C_People) "hear_seen" = some (some (.ref f_People_hear_seen)))
    (i_People_hear_seen : PySem.W.isFn K (.ref f_People_hear_seen) = true)
    (l_People_hear_seen : K.lookup f_People_hear_seen = some ⟨oc21, od21, .func (PySem.W.fnOf "hear_seen" "People.hear_seen" (defArgs (inClass (top 38) 5)) (defBody (inClass (top 38) 5)) (defScope (inClass (top 38) 5)) .none kV21 dc21 pm21 an21 cd21 ct21), sl21⟩)
    (c_People_hear_seen : PySem.W.codeIn K cd21 "People.hear_seen" = true)
    (k_People_hear_seen : PySem.W.keepIn K (.ref f_People_hear_seen) = true)
    (a_People_hear_answer : PySem.W.findIn K (.ref C_People) "hear_answer" = some (some (.ref f_People_hear_answer)))
    (i_People_hear_answer : PySem.W.isFn K (.ref f_People_hear_answer) = true)
    (l_People_hear_answer : K.lookup f_People_hear_answer = some ⟨oc22, od22, .func (PySem.W.fnOf "hear_answer" "People.hear_answer" (defArgs (inClass (top 38) 6)) (defBody (inClass (top 38) 6)) (defScope (inClass (top 38) 6)) .none kV22 dc22 pm22 an22 cd22 ct22), sl22⟩)
    (c_People_hear_answer : PySem.W.codeIn K cd22 "People.hear_answer" = true)
    (k_People_hear_answer : PySem.W.keepIn K (.ref f_People_hear_answer) = true)
    (a_People_tick : PySem.W.findIn K (.ref C_People) "tick" = some (some (.ref f_People_tick)))
    (i_People_tick : PySem.W.isFn K (.ref f_People_tick) = true)
    (l_People_tick : K.lookup f_People_tick = some ⟨oc23, od23, .func (PySem.W.fnOf "tick" "People.tick" (defArgs (inClass (top 38) 7)) (defBody (inClass (top 38) 7)) (defScope (inClass (top 38) 7)) .none kV23 dc23 pm23 an23 cd23 ct23), sl23⟩)
    (c_People_tick : PySem.W.codeIn K cd23 "People.tick" = true)
    (k_People_tick : PySem.W.keepIn K (.ref f_People_tick) = true)
    (a_People_whole_map : PySem.W.findIn K (.ref C_People) "whole_map" = some (some (.ref f_People_whole_map)))
    (i_People_whole_map : PySem.W.isFn K (.ref f_People_whole_map) = true)
    (l_People_whole_map : K.lookup f_People_whole_map = some ⟨oc24, od24, .func (PySem.W.fnOf "whole_map" "People.whole_map" (defArgs (inClass (top 38) 8)) (defBody (inClass (top 38) 8)) (defScope (inClass (top 38) 8)) .none kV24 dc24 pm24 an24 cd24 ct24), sl24⟩)
    (c_People_whole_map : PySem.W.codeIn K cd24 "People.whole_map" = true)
    (k_People_whole_map : PySem.W.keepIn K (.ref f_People_whole_map) = true)
    (a_People_state : PySem.W.findIn K (.ref C_People) "state" = some (some (.ref f_People_state)))
    (i_People_state : PySem.W.isFn K (.ref f_People_state) = true)
    (l_People_state : K.lookup f_People_state = some ⟨oc25, od25, .func (PySem.W.fnOf "state" "People.state" (defArgs (inClass (top 38) 9)) (defBody (inClass (top 38) 9)) (defScope (inClass (top 38) 9)) .none kV25 dc25 pm25 an25 cd25 ct25), sl25⟩)
    (c_People_state : PySem.W.codeIn K cd25 "People.state" = true)
    (k_People_state : PySem.W.keepIn K (.ref f_People_state) = true)
    (a_Rover___init__ : PySem.W.findIn K (.ref C_Rover) "__init__" = some (some (.ref f_Rover___init__)))
    (i_Rover___init__ : PySem.W.isFn K (.ref f_Rover___init__) = true)
    (l_Rover___init__ : K.lookup f_Rover___init__ = some ⟨oc26, od26, .func (PySem.W.fnOf "__init__" "Rover.__init__" (defArgs (inClass (top 48) 0)) (defBody (inClass (top 48) 0)) (defScope (inClass (top 48) 0)) .none kV26 dc26 pm26 an26 cd26 ct26), sl26⟩)
    (c_Rover___init__ : PySem.W.codeIn K cd26 "Rover.__init__" = true)
    (k_Rover___init__ : PySem.W.keepIn K (.ref f_Rover___init__) = true)
    (a_Rover_step : PySem.W.findIn K (.ref C_Rover) "step" = some (some (.ref f_Rover_step)))
    (i_Rover_step : PySem.W.isFn K (.ref f_Rover_step) = true)
    (l_Rover_step : K.lookup f_Rover_step = some ⟨oc27, od27, .func (PySem.W.fnOf "step" "Rover.step" (defArgs (inClass (top 48) 1)) (defBody (inClass (top 48) 1)) (defScope (inClass (top 48) 1)) .none kV27 dc27 pm27 an27 cd27 ct27), sl27⟩)
    (c_Rover_step : PySem.W.codeIn K cd27 "Rover.step" = true)
    (k_Rover_step : PySem.W.keepIn K (.ref f_Rover_step) = true)
    (a_Rover_unknown_in_sight : PySem.W.findIn K (.ref C_Rover) "unknown_in_sight" = some (some (.ref f_Rover_unknown_in_sight)))
    (i_Rover_unknown_in_sight : PySem.W.isFn K (.ref f_Rover_unknown_in_sight) = true)
    (l_Rover_unknown_in_sight : K.lookup f_Rover_unknown_in_sight = some ⟨oc28, od28, .func (PySem.W.fnOf "unknown_in_sight" "Rover.unknown_in_sight" (defArgs (inClass (top 48) 2)) (defBody (inClass (top 48) 2)) (defScope (inClass (top 48) 2)) .none kV28 dc28 pm28 an28 cd28 ct28), sl28⟩)
    (c_Rover_unknown_in_sight : PySem.W.codeIn K cd28 "Rover.unknown_in_sight" = true)
    (k_Rover_unknown_in_sight : PySem.W.keepIn K (.ref f_Rover_unknown_in_sight) = true)
    (a_Rover_look : PySem.W.findIn K (.ref C_Rover) "look" = some (some (.ref f_Rover_look)))
    (i_Rover_look : PySem.W.isFn K (.ref f_Rover_look) = true)
    (l_Rover_look : K.lookup f_Rover_look = some ⟨oc29, od29, .func (PySem.W.fnOf "look" "Rover.look" (defArgs (inClass (top 48) 3)) (defBody (inClass (top 48) 3)) (defScope (inClass (top 48) 3)) .none kV29 dc29 pm29 an29 cd29 ct29), sl29⟩)
    (c_Rover_look : PySem.W.codeIn K cd29 "Rover.look" = true)
    (k_Rover_look : PySem.W.keepIn K (.ref f_Rover_look) = true)
    (a_Rover_weigh : PySem.W.findIn K (.ref C_Rover) "weigh" = some (some (.ref f_Rover_weigh)))
    (i_Rover_weigh : PySem.W.isFn K (.ref f_Rover_weigh) = true)
    (l_Rover_weigh : K.lookup f_Rover_weigh = some ⟨oc30, od30, .func (PySem.W.fnOf "weigh" "Rover.weigh" (defArgs (inClass (top 48) 4)) (defBody (inClass (top 48) 4)) (defScope (inClass (top 48) 4)) .none kV30 dc30 pm30 an30 cd30 ct30), sl30⟩)
    (c_Rover_weigh : PySem.W.codeIn K cd30 "Rover.weigh" = true)
    (k_Rover_weigh : PySem.W.keepIn K (.ref f_Rover_weigh) = true)
    (a_Rover_choose_goal : PySem.W.findIn K (.ref C_Rover) "choose_goal" = some (some (.ref f_Rover_choose_goal)))
    (i_Rover_choose_goal : PySem.W.isFn K (.ref f_Rover_choose_goal) = true)
    (l_Rover_choose_goal : K.lookup f_Rover_choose_goal = some ⟨oc31, od31, .func (PySem.W.fnOf "choose_goal" "Rover.choose_goal" (defArgs (inClass (top 48) 5)) (defBody (inClass (top 48) 5)) (defScope (inClass (top 48) 5)) .none kV31 dc31 pm31 an31 cd31 ct31), sl31⟩)
    (c_Rover_choose_goal : PySem.W.codeIn K cd31 "Rover.choose_goal" = true)
    (k_Rover_choose_goal : PySem.W.keepIn K (.ref f_Rover_choose_goal) = true)
    (a_Rover_go : PySem.W.findIn K (.ref C_Rover) "go" = some (some (.ref f_Rover_go)))
    (i_Rover_go : PySem.W.isFn K (.ref f_Rover_go) = true)
    (l_Rover_go : K.lookup f_Rover_go = some ⟨oc32, od32, .func (PySem.W.fnOf "go" "Rover.go" (defArgs (inClass (top 48) 6)) (defBody (inClass (top 48) 6)) (defScope (inClass (top 48) 6)) .none kV32 dc32 pm32 an32 cd32 ct32), sl32⟩)
    (c_Rover_go : PySem.W.codeIn K cd32 "Rover.go" = true)
    (k_Rover_go : PySem.W.keepIn K (.ref f_Rover_go) = true)
    (a_Rover_send_seen : PySem.W.findIn K (.ref C_Rover) "send_seen" = some (some (.ref f_Rover_send_seen)))
    (i_Rover_send_seen : PySem.W.isFn K (.ref f_Rover_send_seen) = true)
    (l_Rover_send_seen : K.lookup f_Rover_send_seen = some ⟨oc33, od33, .func (PySem.W.fnOf "send_seen" "Rover.send_seen" (defArgs (inClass (top 48) 7)) (defBody (inClass (top 48) 7)) (defScope (inClass (top 48) 7)) .none kV33 dc33 pm33 an33 cd33 ct33), sl33⟩)
    (c_Rover_send_seen : PySem.W.codeIn K cd33 "Rover.send_seen" = true)
    (k_Rover_send_seen : PySem.W.keepIn K (.ref f_Rover_send_seen) = true)
    (a_Rover_hear : PySem.W.findIn K (.ref C_Rover) "hear" = some (some (.ref f_Rover_hear)))
    (i_Rover_hear : PySem.W.isFn K (.ref f_Rover_hear) = true)
    (l_Rover_hear : K.lookup f_Rover_hear = some ⟨oc34, od34, .func (PySem.W.fnOf "hear" "Rover.hear" (defArgs (inClass (top 48) 8)) (defBody (inClass (top 48) 8)) (defScope (inClass (top 48) 8)) .none kV34 dc34 pm34 an34 cd34 ct34), sl34⟩)
    (c_Rover_hear : PySem.W.codeIn K cd34 "Rover.hear" = true)
    (k_Rover_hear : PySem.W.keepIn K (.ref f_Rover_hear) = true)
    (a_Rover_hear_keep_out : PySem.W.findIn K (.ref C_Rover) "hear_keep_out" = some (some (.ref f_Rover_hear_keep_out)))
    (i_Rover_hear_keep_out : PySem.W.isFn K (.ref f_Rover_hear_keep_out) = true)
    (l_Rover_hear_keep_out : K.lookup f_Rover_hear_keep_out = some ⟨oc35, od35, .func (PySem.W.fnOf "hear_keep_out" "Rover.hear_keep_out" (defArgs (inClass (top 48) 9)) (defBody (inClass (top 48) 9)) (defScope (inClass (top 48) 9)) .none kV35 dc35 pm35 an35 cd35 ct35), sl35⟩)
    (c_Rover_hear_keep_out : PySem.W.codeIn K cd35 "Rover.hear_keep_out" = true)
    (k_Rover_hear_keep_out : PySem.W.keepIn K (.ref f_Rover_hear_keep_out) = true)
    (a_Rover_can_keep_out : PySem.W.findIn K (.ref C_Rover) "can_keep_out" = some (some (.ref f_Rover_can_keep_out)))
    (i_Rover_can_keep_out : PySem.W.isFn K (.ref f_Rover_can_keep_out) = true)
    (l_Rover_can_keep_out : K.lookup f_Rover_can_keep_out = some ⟨oc36, od36, .func (PySem.W.fnOf "can_keep_out" "Rover.can_keep_out" (defArgs (inClass (top 48) 10)) (defBody (inClass (top 48) 10)) (defScope (inClass (top 48) 10)) .none kV36 dc36 pm36 an36 cd36 ct36), sl36⟩)
    (c_Rover_can_keep_out : PySem.W.codeIn K cd36 "Rover.can_keep_out" = true)
    (k_Rover_can_keep_out : PySem.W.keepIn K (.ref f_Rover_can_keep_out) = true)
    (a_Rover_hear_had : PySem.W.findIn K (.ref C_Rover) "hear_had" = some (some (.ref f_Rover_hear_had)))
    (i_Rover_hear_had : PySem.W.isFn K (.ref f_Rover_hear_had) = true)
    (l_Rover_hear_had : K.lookup f_Rover_hear_had = some ⟨oc37, od37, .func (PySem.W.fnOf "hear_had" "Rover.hear_had" (defArgs (inClass (top 48) 11)) (defBody (inClass (top 48) 11)) (defScope (inClass (top 48) 11)) .none kV37 dc37 pm37 an37 cd37 ct37), sl37⟩)
    (c_Rover_hear_had : PySem.W.codeIn K cd37 "Rover.hear_had" = true)
    (k_Rover_hear_had : PySem.W.keepIn K (.ref f_Rover_hear_had) = true)
    (a_Rover_tick : PySem.W.findIn K (.ref C_Rover) "tick" = some (some (.ref f_Rover_tick)))
    (i_Rover_tick : PySem.W.isFn K (.ref f_Rover_tick) = true)
    (l_Rover_tick : K.lookup f_Rover_tick = some ⟨oc38, od38, .func (PySem.W.fnOf "tick" "Rover.tick" (defArgs (inClass (top 48) 12)) (defBody (inClass (top 48) 12)) (defScope (inClass (top 48) 12)) .none kV38 dc38 pm38 an38 cd38 ct38), sl38⟩)
    (c_Rover_tick : PySem.W.codeIn K cd38 "Rover.tick" = true)
    (k_Rover_tick : PySem.W.keepIn K (.ref f_Rover_tick) = true)
    (a_Rover_state : PySem.W.findIn K (.ref C_Rover) "state" = some (some (.ref f_Rover_state)))
    (i_Rover_state : PySem.W.isFn K (.ref f_Rover_state) = true)
    (l_Rover_state : K.lookup f_Rover_state = some ⟨oc39, od39, .func (PySem.W.fnOf "state" "Rover.state" (defArgs (inClass (top 48) 13)) (defBody (inClass (top 48) 13)) (defScope (inClass (top 48) 13)) .none kV39 dc39 pm39 an39 cd39 ct39), sl39⟩)
    (c_Rover_state : PySem.W.codeIn K cd39 "Rover.state" = true)
    (k_Rover_state : PySem.W.keepIn K (.ref f_Rover_state) = true)
    (a_Line___init__ : PySem.W.findIn K (.ref C_Line) "__init__" = some (some (.ref f_Line___init__)))
    (i_Line___init__ : PySem.W.isFn K (.ref f_Line___init__) = true)
    (l_Line___init__ : K.lookup f_Line___init__ = some ⟨oc40, od40, .func (PySem.W.fnOf "__init__" "Line.__init__" (defArgs (inClass (top 63) 0)) (defBody (inClass (top 63) 0)) (defScope (inClass (top 63) 0)) .none kV40 dc40 pm40 an40 cd40 ct40), sl40⟩)
    (c_Line___init__ : PySem.W.codeIn K cd40 "Line.__init__" = true)
    (k_Line___init__ : PySem.W.keepIn K (.ref f_Line___init__) = true)
    (a_Line_start_rover : PySem.W.findIn K (.ref C_Line) "start_rover" = some (some (.ref f_Line_start_rover)))
    (i_Line_start_rover : PySem.W.isFn K (.ref f_Line_start_rover) = true)
    (l_Line_start_rover : K.lookup f_Line_start_rover = some ⟨oc41, od41, .func (PySem.W.fnOf "start_rover" "Line.start_rover" (defArgs (inClass (top 63) 1)) (defBody (inClass (top 63) 1)) (defScope (inClass (top 63) 1)) .none kV41 dc41 pm41 an41 cd41 ct41), sl41⟩)
    (c_Line_start_rover : PySem.W.codeIn K cd41 "Line.start_rover" = true)
    (k_Line_start_rover : PySem.W.keepIn K (.ref f_Line_start_rover) = true)
    (a_Line_start_people : PySem.W.findIn K (.ref C_Line) "start_people" = some (some (.ref f_Line_start_people)))
    (i_Line_start_people : PySem.W.isFn K (.ref f_Line_start_people) = true)
    (l_Line_start_people : K.lookup f_Line_start_people = some ⟨oc42, od42, .func (PySem.W.fnOf "start_people" "Line.start_people" (defArgs (inClass (top 63) 2)) (defBody (inClass (top 63) 2)) (defScope (inClass (top 63) 2)) .none kV42 dc42 pm42 an42 cd42 ct42), sl42⟩)
    (c_Line_start_people : PySem.W.codeIn K cd42 "Line.start_people" = true)
    (k_Line_start_people : PySem.W.keepIn K (.ref f_Line_start_people) = true)
    (a_Line_answer : PySem.W.findIn K (.ref C_Line) "answer" = some (some (.ref f_Line_answer)))
    (i_Line_answer : PySem.W.isFn K (.ref f_Line_answer) = true)
    (l_Line_answer : K.lookup f_Line_answer = some ⟨oc43, od43, .func (PySem.W.fnOf "answer" "Line.answer" (defArgs (inClass (top 63) 3)) (defBody (inClass (top 63) 3)) (defScope (inClass (top 63) 3)) .none kV43 dc43 pm43 an43 cd43 ct43), sl43⟩)
    (c_Line_answer : PySem.W.codeIn K cd43 "Line.answer" = true)
    (k_Line_answer : PySem.W.keepIn K (.ref f_Line_answer) = true)
    (a_Line_answer_on_rover : PySem.W.findIn K (.ref C_Line) "answer_on_rover" = some (some (.ref f_Line_answer_on_rover)))
    (i_Line_answer_on_rover : PySem.W.isFn K (.ref f_Line_answer_on_rover) = true)
    (l_Line_answer_on_rover : K.lookup f_Line_answer_on_rover = some ⟨oc44, od44, .func (PySem.W.fnOf "answer_on_rover" "Line.answer_on_rover" (defArgs (inClass (top 63) 4)) (defBody (inClass (top 63) 4)) (defScope (inClass (top 63) 4)) .none kV44 dc44 pm44 an44 cd44 ct44), sl44⟩)
    (c_Line_answer_on_rover : PySem.W.codeIn K cd44 "Line.answer_on_rover" = true)
    (k_Line_answer_on_rover : PySem.W.keepIn K (.ref f_Line_answer_on_rover) = true)
    (a_Line_answer_on_people : PySem.W.findIn K (.ref C_Line) "answer_on_people" = some (some (.ref f_Line_answer_on_people)))
    (i_Line_answer_on_people : PySem.W.isFn K (.ref f_Line_answer_on_people) = true)
    (l_Line_answer_on_people : K.lookup f_Line_answer_on_people = some ⟨oc45, od45, .func (PySem.W.fnOf "answer_on_people" "Line.answer_on_people" (defArgs (inClass (top 63) 5)) (defBody (inClass (top 63) 5)) (defScope (inClass (top 63) 5)) .none kV45 dc45 pm45 an45 cd45 ct45), sl45⟩)
    (c_Line_answer_on_people : PySem.W.codeIn K cd45 "Line.answer_on_people" = true)
    (k_Line_answer_on_people : PySem.W.keepIn K (.ref f_Line_answer_on_people) = true)
    (a_has_row : PySem.W.nsIn K mainGlobals "has_row" = some (some (.ref f_has_row)))
    (l_has_row : K.lookup f_has_row = some ⟨oc46, od46, .func (PySem.W.fnOf "has_row" "has_row" (defArgs (top 64)) (defBody (top 64)) (defScope (top 64)) .none kV46 dc46 pm46 an46 cd46 ct46), sl46⟩)
    (c_has_row : PySem.W.codeIn K cd46 "has_row" = true)
    (k_has_row : PySem.W.keepIn K (.ref f_has_row) = true)
    (a_answers : PySem.W.nsIn K mainGlobals "answers" = some (some (.ref f_answers)))
    (l_answers : K.lookup f_answers = some ⟨oc47, od47, .func (PySem.W.fnOf "answers" "answers" (defArgs (top 65)) (defBody (top 65)) (defScope (top 65)) .none kV47 dc47 pm47 an47 cd47 ct47), sl47⟩)
    (c_answers : PySem.W.codeIn K cd47 "answers" = true)
    (k_answers : PySem.W.keepIn K (.ref f_answers) = true)
    (pg_People : PySem.W.plainGet K C_People Str.empty = true)
    (hd_People : PySem.W.hasDictIn K C_People = true)
    (po_People : PySem.W.plainOver K C_People = true)
    (sa_People : PySem.W.findIn K (.ref C_People) "__setattr__" = some (some (.builtin "object.__setattr__")))
    (mk_People : PySem.W.makesIn K C_People = true)
    (kc_People : PySem.W.keepIn K (.ref C_People) = true)
    (na_People_size : PySem.W.findIn K (.ref C_People) "size" = some none)
    (na_People_costs : PySem.W.findIn K (.ref C_People) "costs" = some none)
    (na_People_told : PySem.W.findIn K (.ref C_People) "told" = some none)
    (na_People_last_number : PySem.W.findIn K (.ref C_People) "last_number" = some none)
    (na_People_last_cell : PySem.W.findIn K (.ref C_People) "last_cell" = some none)
    (na_People_last_answer : PySem.W.findIn K (.ref C_People) "last_answer" = some none)
    (na_People_ticks : PySem.W.findIn K (.ref C_People) "ticks" = some none)
    (pg_Rover : PySem.W.plainGet K C_Rover Str.empty = true)
    (hd_Rover : PySem.W.hasDictIn K C_Rover = true)
    (po_Rover : PySem.W.plainOver K C_Rover = true)
    (sa_Rover : PySem.W.findIn K (.ref C_Rover) "__setattr__" = some (some (.builtin "object.__setattr__")))
    (mk_Rover : PySem.W.makesIn K C_Rover = true)
    (kc_Rover : PySem.W.keepIn K (.ref C_Rover) = true)
    (na_Rover_size : PySem.W.findIn K (.ref C_Rover) "size" = some none)
    (na_Rover_beside : PySem.W.findIn K (.ref C_Rover) "beside" = some none)
    (na_Rover_ground : PySem.W.findIn K (.ref C_Rover) "ground" = some none)
    (na_Rover_home : PySem.W.findIn K (.ref C_Rover) "home" = some none)
    (na_Rover_room : PySem.W.findIn K (.ref C_Rover) "room" = some none)
    (na_Rover_costs : PySem.W.findIn K (.ref C_Rover) "costs" = some none)
    (na_Rover_place : PySem.W.findIn K (.ref C_Rover) "place" = some none)
    (na_Rover_left : PySem.W.findIn K (.ref C_Rover) "left" = some none)
    (na_Rover_been : PySem.W.findIn K (.ref C_Rover) "been" = some none)
    (na_Rover_kept_out : PySem.W.findIn K (.ref C_Rover) "kept_out" = some none)
    (na_Rover_seen : PySem.W.findIn K (.ref C_Rover) "seen" = some none)
    (na_Rover_had : PySem.W.findIn K (.ref C_Rover) "had" = some none)
    (na_Rover_last_number : PySem.W.findIn K (.ref C_Rover) "last_number" = some none)
    (na_Rover_last_answer : PySem.W.findIn K (.ref C_Rover) "last_answer" = some none)
    (na_Rover_ticks : PySem.W.findIn K (.ref C_Rover) "ticks" = some none)
    (pg_Line : PySem.W.plainGet K C_Line Str.empty = true)
    (hd_Line : PySem.W.hasDictIn K C_Line = true)
    (po_Line : PySem.W.plainOver K C_Line = true)
    (sa_Line : PySem.W.findIn K (.ref C_Line) "__setattr__" = some (some (.builtin "object.__setattr__")))
    (mk_Line : PySem.W.makesIn K C_Line = true)
    (kc_Line : PySem.W.keepIn K (.ref C_Line) = true)
    (na_Line_rover : PySem.W.findIn K (.ref C_Line) "rover" = some none)
    (na_Line_people : PySem.W.findIn K (.ref C_Line) "people" = some none)
    (g_CLOSED : PySem.W.nsIn K mainGlobals "CLOSED" = some (some (.int (255) t_CLOSED)))
    (g_HIGHEST_COST : PySem.W.nsIn K mainGlobals "HIGHEST_COST" = some (some (.int (200) t_HIGHEST_COST)))
    (g_LONGEST_SIDE : PySem.W.nsIn K mainGlobals "LONGEST_SIDE" = some (some (.int (16) t_LONGEST_SIDE)))
    (g_MOST_CELLS : PySem.W.nsIn K mainGlobals "MOST_CELLS" = some (some (.int (256) t_MOST_CELLS)))
    (g_SHARE : PySem.W.nsIn K mainGlobals "SHARE" = some (some (.int (1024) t_SHARE)))
    (g_KEEP_OUT : PySem.W.nsIn K mainGlobals "KEEP_OUT" = some (some (.int (1) t_KEEP_OUT)))
    (g_HAD : PySem.W.nsIn K mainGlobals "HAD" = some (some (.int (2) t_HAD)))
    (g_SEEN : PySem.W.nsIn K mainGlobals "SEEN" = some (some (.int (3) t_SEEN)))
    (g_ANSWER : PySem.W.nsIn K mainGlobals "ANSWER" = some (some (.int (4) t_ANSWER)))
    (g_LENGTH : PySem.W.nsIn K mainGlobals "LENGTH" = some (some (.int (8) t_LENGTH)))
    (g_MOST_NUMBER : PySem.W.nsIn K mainGlobals "MOST_NUMBER" = some (some (.int (65535) t_MOST_NUMBER)))
    (g_NO : PySem.W.nsIn K mainGlobals "NO" = some (some (.int (0) t_NO)))
    (g_YES : PySem.W.nsIn K mainGlobals "YES" = some (some (.int (1) t_YES)))
    (g_SENT : PySem.W.nsIn K mainGlobals "SENT" = some (some (.int (3) t_SENT)))
    (g_TICKS_APART : PySem.W.nsIn K mainGlobals "TICKS_APART" = some (some (.int (5) t_TICKS_APART)))
    (g_BAD_VALUE : PySem.W.nsIn K mainGlobals "BAD_VALUE" = some (some (.int (-22) t_BAD_VALUE)))
    (g_BAD_MESSAGE : PySem.W.nsIn K mainGlobals "BAD_MESSAGE" = some (some (.int (-71) t_BAD_MESSAGE)))
    (g_NOT_ANSWERED : PySem.W.nsIn K mainGlobals "NOT_ANSWERED" = some (some (.int (-16) t_NOT_ANSWERED)))
    (g_NO_NUMBER_LEFT : PySem.W.nsIn K mainGlobals "NO_NUMBER_LEFT" = some (some (.int (-28) t_NO_NUMBER_LEFT)))
    (g_LOOKED : PySem.W.nsIn K mainGlobals "LOOKED" = some (some (.int (1) t_LOOKED)))
    (g_TO_GOAL : PySem.W.nsIn K mainGlobals "TO_GOAL" = some (some (.int (2) t_TO_GOAL)))
    (g_TO_HOME : PySem.W.nsIn K mainGlobals "TO_HOME" = some (some (.int (3) t_TO_HOME)))
    (g_FILLED : PySem.W.nsIn K mainGlobals "FILLED" = some (some (.int (4) t_FILLED)))
    (g_NOTHING : PySem.W.nsIn K mainGlobals "NOTHING" = some (some (.int (0) t_NOTHING)))
    (g_SAW : PySem.W.nsIn K mainGlobals "SAW" = some (some (.int (0) t_SAW)))
    (g_WENT : PySem.W.nsIn K mainGlobals "WENT" = some (some (.int (1) t_WENT)))
    (g_CHARGED : PySem.W.nsIn K mainGlobals "CHARGED" = some (some (.int (2) t_CHARGED)))
    (g_RV_START : PySem.W.nsIn K mainGlobals "RV_START" = some (some (.int (0) t_RV_START)))
    (g_RV_STEP : PySem.W.nsIn K mainGlobals "RV_STEP" = some (some (.int (1) t_RV_STEP)))
    (g_RV_HEARD : PySem.W.nsIn K mainGlobals "RV_HEARD" = some (some (.int (2) t_RV_HEARD)))
    (g_RV_TICK : PySem.W.nsIn K mainGlobals "RV_TICK" = some (some (.int (3) t_RV_TICK)))
    (g_RV_STATE : PySem.W.nsIn K mainGlobals "RV_STATE" = some (some (.int (4) t_RV_STATE)))
    (g_BS_START : PySem.W.nsIn K mainGlobals "BS_START" = some (some (.int (5) t_BS_START)))
    (g_BS_AVOID : PySem.W.nsIn K mainGlobals "BS_AVOID" = some (some (.int (6) t_BS_AVOID)))
    (g_BS_HEARD : PySem.W.nsIn K mainGlobals "BS_HEARD" = some (some (.int (7) t_BS_HEARD)))
    (g_BS_TICK : PySem.W.nsIn K mainGlobals "BS_TICK" = some (some (.int (8) t_BS_TICK)))
    (g_BS_MAP : PySem.W.nsIn K mainGlobals "BS_MAP" = some (some (.int (9) t_BS_MAP)))
    (g_BS_STATE : PySem.W.nsIn K mainGlobals "BS_STATE" = some (some (.int (10) t_BS_STATE)))
    (g_MOST_ROOM : PySem.W.nsIn K mainGlobals "MOST_ROOM" = some (some (.int (65535) t_MOST_ROOM)))
    (g_PLAIN_LENGTHS : PySem.W.nsIn K mainGlobals "PLAIN_LENGTHS" = some (some (.ref p_PLAIN_LENGTHS)))
    (q_PLAIN_LENGTHS : K.lookup p_PLAIN_LENGTHS = some ⟨.type "tuple", od_PLAIN_LENGTHS, .seq #[.int (5) t_PLAIN_LENGTHS0, .int (1) t_PLAIN_LENGTHS1, .int (1) t_PLAIN_LENGTHS2, .int (1) t_PLAIN_LENGTHS3, .int (1) t_PLAIN_LENGTHS4, .int (3) t_PLAIN_LENGTHS5, .int (2) t_PLAIN_LENGTHS6, .int (1) t_PLAIN_LENGTHS7, .int (1) t_PLAIN_LENGTHS8, .int (1) t_PLAIN_LENGTHS9, .int (1) t_PLAIN_LENGTHS10] n_PLAIN_LENGTHS, sl_PLAIN_LENGTHS⟩)
    (b_len : PySem.W.nsIn K mainGlobals "len" = some none)
    (b_range : PySem.W.nsIn K mainGlobals "range" = some none)
    (b_min : PySem.W.nsIn K mainGlobals "min" = some none)
    (b_sorted : PySem.W.nsIn K mainGlobals "sorted" = some none)
    (b_set : PySem.W.nsIn K mainGlobals "set" = some none) :
    ∃ fd : FuncData, (∀ (s : Shared) (us : List Value), us.length = (["calls"] : List Str).length → BindsTo s fd ⟨us, []⟩ ((["calls"] : List Str).zip us)) ∧ ∀ base : Heap, K.In base → base.Ns mainGlobals mg → FnOk P w K mg base CX0 8 fa fd ["calls"] (spAnswers K) := by
  have e := hfa.symm.trans (PySem.W.mg_of X G0 a_answers)
  cases e
  refine ⟨(PySem.W.fnOf "answers" "answers" (defArgs (top 65)) (defBody (top 65)) (defScope (top 65)) .none kV47 dc47 pm47 an47 cd47 ct47), fun s us hu => match us, hu with | [_], _ => .of_eq rfl, fun base _ _ => ?_⟩
  have m_People := PySem.W.mg_of X G0 n_People
  have m_Rover := PySem.W.mg_of X G0 n_Rover
  have m_Line := PySem.W.mg_of X G0 n_Line
  have F_sides_fit := fun_mk (st := (top 6)) l_sides_fit c_sides_fit k_sides_fit
  have b_sides_fit := F_sides_fit.binds (ps := ["width", "height"]) fun _ _ _ _ _ _ us hl => match us, hl with | [_, _], _ => rfl
  have m_sides_fit := PySem.W.mg_of X G0 a_sides_fit
  have F_is_cost := fun_mk (st := (top 7)) l_is_cost c_is_cost k_is_cost
  have b_is_cost := F_is_cost.binds (ps := ["cost"]) fun _ _ _ _ _ _ us hl => match us, hl with | [_], _ => rfl
  have m_is_cost := PySem.W.mg_of X G0 a_is_cost
  have F_neighbours := fun_mk (st := (top 8)) l_neighbours c_neighbours k_neighbours
  have b_neighbours := F_neighbours.binds (ps := ["width", "height", "cell"]) fun _ _ _ _ _ _ us hl => match us, hl with | [_, _, _], _ => rfl
  have m_neighbours := PySem.W.mg_of X G0 a_neighbours
  have F_all_neighbours := fun_mk (st := (top 9)) l_all_neighbours c_all_neighbours k_all_neighbours
  have b_all_neighbours := F_all_neighbours.binds (ps := ["width", "height"]) fun _ _ _ _ _ _ us hl => match us, hl with | [_, _], _ => rfl
  have m_all_neighbours := PySem.W.mg_of X G0 a_all_neighbours
  have F_weight := fun_mk (st := (top 10)) l_weight c_weight k_weight
  have b_weight := F_weight.binds (ps := ["cost", "kept_out"]) fun _ _ _ _ _ _ us hl => match us, hl with | [_, _], _ => rfl
  have m_weight := PySem.W.mg_of X G0 a_weight
  have F_lightest := fun_mk (st := (top 11)) l_lightest c_lightest k_lightest
  have b_lightest := F_lightest.binds (ps := ["weights", "beside", "start"]) fun _ _ _ _ _ _ us hl => match us, hl with | [_, _, _], _ => rfl
  have m_lightest := PySem.W.mg_of X G0 a_lightest
  have F_taken := fun_mk (st := (top 12)) l_taken c_taken k_taken
  have b_taken := F_taken.binds (ps := ["whole", "first"]) fun _ _ _ _ _ _ us hl => match us, hl with | [_, _], _ => rfl
  have m_taken := PySem.W.mg_of X G0 a_taken
  have F_second_cell := fun_mk (st := (top 13)) l_second_cell c_second_cell k_second_cell
  have b_second_cell := F_second_cell.binds (ps := ["weights", "beside", "sums", "place"]) fun _ _ _ _ _ _ us hl => match us, hl with | [_, _, _, _], _ => rfl
  have m_second_cell := PySem.W.mg_of X G0 a_second_cell
  have F_message := fun_mk (st := (top 25)) l_message c_message k_message
  have b_message := F_message.binds (ps := ["kind", "number", "first", "second"]) fun _ _ _ _ _ _ us hl => match us, hl with | [_, _, _, _], _ => rfl
  have m_message := PySem.W.mg_of X G0 a_message
  have F_send := fun_mk (st := (top 26)) l_send c_send k_send
  have b_send := F_send.binds (ps := ["kind", "number", "first", "second"]) fun _ _ _ _ _ _ us hl => match us, hl with | [_, _, _, _], _ => rfl
  have m_send := PySem.W.mg_of X G0 a_send
  have F_number_of := fun_mk (st := (top 27)) l_number_of c_number_of k_number_of
  have b_number_of := F_number_of.binds (ps := ["m"]) fun _ _ _ _ _ _ us hl => match us, hl with | [_], _ => rfl
  have m_number_of := PySem.W.mg_of X G0 a_number_of
  have F_is_framed := fun_mk (st := (top 28)) l_is_framed c_is_framed k_is_framed
  have b_is_framed := F_is_framed.binds (ps := ["m", "kind"]) fun _ _ _ _ _ _ us hl => match us, hl with | [_, _], _ => rfl
  have m_is_framed := PySem.W.mg_of X G0 a_is_framed
  have F_is_keep_out := fun_mk (st := (top 29)) l_is_keep_out c_is_keep_out k_is_keep_out
  have b_is_keep_out := F_is_keep_out.binds (ps := ["m", "size"]) fun _ _ _ _ _ _ us hl => match us, hl with | [_, _], _ => rfl
  have m_is_keep_out := PySem.W.mg_of X G0 a_is_keep_out
  have F_is_had := fun_mk (st := (top 30)) l_is_had c_is_had k_is_had
  have b_is_had := F_is_had.binds (ps := ["m"]) fun _ _ _ _ _ _ us hl => match us, hl with | [_], _ => rfl
  have m_is_had := PySem.W.mg_of X G0 a_is_had
  have F_is_seen := fun_mk (st := (top 31)) l_is_seen c_is_seen k_is_seen
  have b_is_seen := F_is_seen.binds (ps := ["m", "size"]) fun _ _ _ _ _ _ us hl => match us, hl with | [_, _], _ => rfl
  have m_is_seen := PySem.W.mg_of X G0 a_is_seen
  have F_is_answer := fun_mk (st := (top 32)) l_is_answer c_is_answer k_is_answer
  have b_is_answer := F_is_answer.binds (ps := ["m"]) fun _ _ _ _ _ _ us hl => match us, hl with | [_], _ => rfl
  have m_is_answer := PySem.W.mg_of X G0 a_is_answer
  have F_People___init__ := fun_mk (st := (inClass (top 38) 0)) l_People___init__ c_People___init__ k_People___init__
  have b_People___init__ := F_People___init__.binds (ps := ["self", "width", "height"]) fun _ _ _ _ _ _ us hl => match us, hl with | [_, _, _], _ => rfl
  have t_People___init__ : Meth K C_People "__init__" f_People___init__ := ⟨a_People___init__, i_People___init__, k_People___init__⟩
  have F_People_waits := fun_mk (st := (inClass (top 38) 1)) l_People_waits c_People_waits k_People_waits
  have b_People_waits := F_People_waits.binds (ps := ["self"]) fun _ _ _ _ _ _ us hl => match us, hl with | [_], _ => rfl
  have t_People_waits : Meth K C_People "waits" f_People_waits := ⟨a_People_waits, i_People_waits, k_People_waits⟩
  have F_People_avoid := fun_mk (st := (inClass (top 38) 2)) l_People_avoid c_People_avoid k_People_avoid
  have b_People_avoid := F_People_avoid.binds (ps := ["self", "cell"]) fun _ _ _ _ _ _ us hl => match us, hl with | [_, _], _ => rfl
  have t_People_avoid : Meth K C_People "avoid" f_People_avoid := ⟨a_People_avoid, i_People_avoid, k_People_avoid⟩
  have F_People_send_keep_out := fun_mk (st := (inClass (top 38) 3)) l_People_send_keep_out c_People_send_keep_out k_People_send_keep_out
  have b_People_send_keep_out := F_People_send_keep_out.binds (ps := ["self"]) fun _ _ _ _ _ _ us hl => match us, hl with | [_], _ => rfl
  have t_People_send_keep_out : Meth K C_People "send_keep_out" f_People_send_keep_out := ⟨a_People_send_keep_out, i_People_send_keep_out, k_People_send_keep_out⟩
  have F_People_hear := fun_mk (st := (inClass (top 38) 4)) l_People_hear c_People_hear k_People_hear
  have b_People_hear := F_People_hear.binds (ps := ["self", "m"]) fun _ _ _ _ _ _ us hl => match us, hl with | [_, _], _ => rfl
  have t_People_hear : Meth K C_People "hear" f_People_hear := ⟨a_People_hear, i_People_hear, k_People_hear⟩
  have F_People_hear_seen := fun_mk (st := (inClass (top 38) 5)) l_People_hear_seen c_People_hear_seen k_People_hear_seen
  have b_People_hear_seen := F_People_hear_seen.binds (ps := ["self", "number", "cell", "cost"]) fun _ _ _ _ _ _ us hl => match us, hl with | [_, _, _, _], _ => rfl
  have t_People_hear_seen : Meth K C_People "hear_seen" f_People_hear_seen := ⟨a_People_hear_seen, i_People_hear_seen, k_People_hear_seen⟩
  have F_People_hear_answer := fun_mk (st := (inClass (top 38) 6)) l_People_hear_answer c_People_hear_answer k_People_hear_answer
  have b_People_hear_answer := F_People_hear_answer.binds (ps := ["self", "number", "said"]) fun _ _ _ _ _ _ us hl => match us, hl with | [_, _, _], _ => rfl
  have t_People_hear_answer : Meth K C_People "hear_answer" f_People_hear_answer := ⟨a_People_hear_answer, i_People_hear_answer, k_People_hear_answer⟩
  have F_People_tick := fun_mk (st := (inClass (top 38) 7)) l_People_tick c_People_tick k_People_tick
  have b_People_tick := F_People_tick.binds (ps := ["self"]) fun _ _ _ _ _ _ us hl => match us, hl with | [_], _ => rfl
  have t_People_tick : Meth K C_People "tick" f_People_tick := ⟨a_People_tick, i_People_tick, k_People_tick⟩
  have F_People_whole_map := fun_mk (st := (inClass (top 38) 8)) l_People_whole_map c_People_whole_map k_People_whole_map
  have b_People_whole_map := F_People_whole_map.binds (ps := ["self"]) fun _ _ _ _ _ _ us hl => match us, hl with | [_], _ => rfl
  have t_People_whole_map : Meth K C_People "whole_map" f_People_whole_map := ⟨a_People_whole_map, i_People_whole_map, k_People_whole_map⟩
  have F_People_state := fun_mk (st := (inClass (top 38) 9)) l_People_state c_People_state k_People_state
  have b_People_state := F_People_state.binds (ps := ["self"]) fun _ _ _ _ _ _ us hl => match us, hl with | [_], _ => rfl
  have t_People_state : Meth K C_People "state" f_People_state := ⟨a_People_state, i_People_state, k_People_state⟩
  have F_Rover___init__ := fun_mk (st := (inClass (top 48) 0)) l_Rover___init__ c_Rover___init__ k_Rover___init__
  have b_Rover___init__ := F_Rover___init__.binds (ps := ["self", "width", "height", "home", "room", "ground"]) fun _ _ _ _ _ _ us hl => match us, hl with | [_, _, _, _, _, _], _ => rfl
  have t_Rover___init__ : Meth K C_Rover "__init__" f_Rover___init__ := ⟨a_Rover___init__, i_Rover___init__, k_Rover___init__⟩
  have F_Rover_step := fun_mk (st := (inClass (top 48) 1)) l_Rover_step c_Rover_step k_Rover_step
  have b_Rover_step := F_Rover_step.binds (ps := ["self"]) fun _ _ _ _ _ _ us hl => match us, hl with | [_], _ => rfl
  have t_Rover_step : Meth K C_Rover "step" f_Rover_step := ⟨a_Rover_step, i_Rover_step, k_Rover_step⟩
  have F_Rover_unknown_in_sight := fun_mk (st := (inClass (top 48) 2)) l_Rover_unknown_in_sight c_Rover_unknown_in_sight k_Rover_unknown_in_sight
  have b_Rover_unknown_in_sight := F_Rover_unknown_in_sight.binds (ps := ["self"]) fun _ _ _ _ _ _ us hl => match us, hl with | [_], _ => rfl
  have t_Rover_unknown_in_sight : Meth K C_Rover "unknown_in_sight" f_Rover_unknown_in_sight := ⟨a_Rover_unknown_in_sight, i_Rover_unknown_in_sight, k_Rover_unknown_in_sight⟩
  have F_Rover_look := fun_mk (st := (inClass (top 48) 3)) l_Rover_look c_Rover_look k_Rover_look
  have b_Rover_look := F_Rover_look.binds (ps := ["self", "cells"]) fun _ _ _ _ _ _ us hl => match us, hl with | [_, _], _ => rfl
  have t_Rover_look : Meth K C_Rover "look" f_Rover_look := ⟨a_Rover_look, i_Rover_look, k_Rover_look⟩
  have F_Rover_weigh := fun_mk (st := (inClass (top 48) 4)) l_Rover_weigh c_Rover_weigh k_Rover_weigh
  have b_Rover_weigh := F_Rover_weigh.binds (ps := ["self"]) fun _ _ _ _ _ _ us hl => match us, hl with | [_], _ => rfl
  have t_Rover_weigh : Meth K C_Rover "weigh" f_Rover_weigh := ⟨a_Rover_weigh, i_Rover_weigh, k_Rover_weigh⟩
  have F_Rover_choose_goal := fun_mk (st := (inClass (top 48) 5)) l_Rover_choose_goal c_Rover_choose_goal k_Rover_choose_goal
  have b_Rover_choose_goal := F_Rover_choose_goal.binds (ps := ["self", "weights", "home_sums"]) fun _ _ _ _ _ _ us hl => match us, hl with | [_, _, _], _ => rfl
  have t_Rover_choose_goal : Meth K C_Rover "choose_goal" f_Rover_choose_goal := ⟨a_Rover_choose_goal, i_Rover_choose_goal, k_Rover_choose_goal⟩
  have F_Rover_go := fun_mk (st := (inClass (top 48) 6)) l_Rover_go c_Rover_go k_Rover_go
  have b_Rover_go := F_Rover_go.binds (ps := ["self", "cell"]) fun _ _ _ _ _ _ us hl => match us, hl with | [_, _], _ => rfl
  have t_Rover_go : Meth K C_Rover "go" f_Rover_go := ⟨a_Rover_go, i_Rover_go, k_Rover_go⟩
  have F_Rover_send_seen := fun_mk (st := (inClass (top 48) 7)) l_Rover_send_seen c_Rover_send_seen k_Rover_send_seen
  have b_Rover_send_seen := F_Rover_send_seen.binds (ps := ["self"]) fun _ _ _ _ _ _ us hl => match us, hl with | [_], _ => rfl
  have t_Rover_send_seen : Meth K C_Rover "send_seen" f_Rover_send_seen := ⟨a_Rover_send_seen, i_Rover_send_seen, k_Rover_send_seen⟩
  have F_Rover_hear := fun_mk (st := (inClass (top 48) 8)) l_Rover_hear c_Rover_hear k_Rover_hear
  have b_Rover_hear := F_Rover_hear.binds (ps := ["self", "m"]) fun _ _ _ _ _ _ us hl => match us, hl with | [_, _], _ => rfl
  have t_Rover_hear : Meth K C_Rover "hear" f_Rover_hear := ⟨a_Rover_hear, i_Rover_hear, k_Rover_hear⟩
  have F_Rover_hear_keep_out := fun_mk (st := (inClass (top 48) 9)) l_Rover_hear_keep_out c_Rover_hear_keep_out k_Rover_hear_keep_out
  have b_Rover_hear_keep_out := F_Rover_hear_keep_out.binds (ps := ["self", "number", "cell"]) fun _ _ _ _ _ _ us hl => match us, hl with | [_, _, _], _ => rfl
  have t_Rover_hear_keep_out : Meth K C_Rover "hear_keep_out" f_Rover_hear_keep_out := ⟨a_Rover_hear_keep_out, i_Rover_hear_keep_out, k_Rover_hear_keep_out⟩
  have F_Rover_can_keep_out := fun_mk (st := (inClass (top 48) 10)) l_Rover_can_keep_out c_Rover_can_keep_out k_Rover_can_keep_out
  have b_Rover_can_keep_out := F_Rover_can_keep_out.binds (ps := ["self", "cell"]) fun _ _ _ _ _ _ us hl => match us, hl with | [_, _], _ => rfl
  have t_Rover_can_keep_out : Meth K C_Rover "can_keep_out" f_Rover_can_keep_out := ⟨a_Rover_can_keep_out, i_Rover_can_keep_out, k_Rover_can_keep_out⟩
  have F_Rover_hear_had := fun_mk (st := (inClass (top 48) 11)) l_Rover_hear_had c_Rover_hear_had k_Rover_hear_had
  have b_Rover_hear_had := F_Rover_hear_had.binds (ps := ["self", "number"]) fun _ _ _ _ _ _ us hl => match us, hl with | [_, _], _ => rfl
  have t_Rover_hear_had : Meth K C_Rover "hear_had" f_Rover_hear_had := ⟨a_Rover_hear_had, i_Rover_hear_had, k_Rover_hear_had⟩
  have F_Rover_tick := fun_mk (st := (inClass (top 48) 12)) l_Rover_tick c_Rover_tick k_Rover_tick
  have b_Rover_tick := F_Rover_tick.binds (ps := ["self"]) fun _ _ _ _ _ _ us hl => match us, hl with | [_], _ => rfl
  have t_Rover_tick : Meth K C_Rover "tick" f_Rover_tick := ⟨a_Rover_tick, i_Rover_tick, k_Rover_tick⟩
  have F_Rover_state := fun_mk (st := (inClass (top 48) 13)) l_Rover_state c_Rover_state k_Rover_state
  have b_Rover_state := F_Rover_state.binds (ps := ["self"]) fun _ _ _ _ _ _ us hl => match us, hl with | [_], _ => rfl
  have t_Rover_state : Meth K C_Rover "state" f_Rover_state := ⟨a_Rover_state, i_Rover_state, k_Rover_state⟩
  have F_Line___init__ := fun_mk (st := (inClass (top 63) 0)) l_Line___init__ c_Line___init__ k_Line___init__
  have b_Line___init__ := F_Line___init__.binds (ps := ["self"]) fun _ _ _ _ _ _ us hl => match us, hl with | [_], _ => rfl
  have t_Line___init__ : Meth K C_Line "__init__" f_Line___init__ := ⟨a_Line___init__, i_Line___init__, k_Line___init__⟩
  have F_Line_start_rover := fun_mk (st := (inClass (top 63) 1)) l_Line_start_rover c_Line_start_rover k_Line_start_rover
  have b_Line_start_rover := F_Line_start_rover.binds (ps := ["self", "width", "height", "home", "room", "ground"]) fun _ _ _ _ _ _ us hl => match us, hl with | [_, _, _, _, _, _], _ => rfl
  have t_Line_start_rover : Meth K C_Line "start_rover" f_Line_start_rover := ⟨a_Line_start_rover, i_Line_start_rover, k_Line_start_rover⟩
  have F_Line_start_people := fun_mk (st := (inClass (top 63) 2)) l_Line_start_people c_Line_start_people k_Line_start_people
  have b_Line_start_people := F_Line_start_people.binds (ps := ["self", "width", "height"]) fun _ _ _ _ _ _ us hl => match us, hl with | [_, _, _], _ => rfl
  have t_Line_start_people : Meth K C_Line "start_people" f_Line_start_people := ⟨a_Line_start_people, i_Line_start_people, k_Line_start_people⟩
  have F_Line_answer := fun_mk (st := (inClass (top 63) 3)) l_Line_answer c_Line_answer k_Line_answer
  have b_Line_answer := F_Line_answer.binds (ps := ["self", "plain", "row"]) fun _ _ _ _ _ _ us hl => match us, hl with | [_, _, _], _ => rfl
  have t_Line_answer : Meth K C_Line "answer" f_Line_answer := ⟨a_Line_answer, i_Line_answer, k_Line_answer⟩
  have F_Line_answer_on_rover := fun_mk (st := (inClass (top 63) 4)) l_Line_answer_on_rover c_Line_answer_on_rover k_Line_answer_on_rover
  have b_Line_answer_on_rover := F_Line_answer_on_rover.binds (ps := ["self", "plain", "row"]) fun _ _ _ _ _ _ us hl => match us, hl with | [_, _, _], _ => rfl
  have t_Line_answer_on_rover : Meth K C_Line "answer_on_rover" f_Line_answer_on_rover := ⟨a_Line_answer_on_rover, i_Line_answer_on_rover, k_Line_answer_on_rover⟩
  have F_Line_answer_on_people := fun_mk (st := (inClass (top 63) 5)) l_Line_answer_on_people c_Line_answer_on_people k_Line_answer_on_people
  have b_Line_answer_on_people := F_Line_answer_on_people.binds (ps := ["self", "plain", "row"]) fun _ _ _ _ _ _ us hl => match us, hl with | [_, _, _], _ => rfl
  have t_Line_answer_on_people : Meth K C_Line "answer_on_people" f_Line_answer_on_people := ⟨a_Line_answer_on_people, i_Line_answer_on_people, k_Line_answer_on_people⟩
  have F_has_row := fun_mk (st := (top 64)) l_has_row c_has_row k_has_row
  have b_has_row := F_has_row.binds (ps := ["call"]) fun _ _ _ _ _ _ us hl => match us, hl with | [_], _ => rfl
  have m_has_row := PySem.W.mg_of X G0 a_has_row
  have F_answers := fun_mk (st := (top 65)) l_answers c_answers k_answers
  have m_PLAIN_LENGTHS := PySem.W.mg_of X G0 g_PLAIN_LENGTHS
  have G : Gs mg := ⟨⟨_, PySem.W.mg_of X G0 g_KEEP_OUT⟩, ⟨_, PySem.W.mg_of X G0 g_HAD⟩, ⟨_, PySem.W.mg_of X G0 g_SEEN⟩, ⟨_, PySem.W.mg_of X G0 g_ANSWER⟩, ⟨_, PySem.W.mg_of X G0 g_LENGTH⟩, ⟨_, PySem.W.mg_of X G0 g_SENT⟩, ⟨_, PySem.W.mg_of X G0 g_CLOSED⟩, ⟨_, PySem.W.mg_of X G0 g_LONGEST_SIDE⟩, ⟨_, PySem.W.mg_of X G0 g_SHARE⟩, ⟨_, PySem.W.mg_of X G0 g_BAD_MESSAGE⟩, ⟨_, PySem.W.mg_of X G0 g_TICKS_APART⟩, ⟨_, PySem.W.mg_of X G0 g_LOOKED⟩, ⟨_, PySem.W.mg_of X G0 g_TO_GOAL⟩, ⟨_, PySem.W.mg_of X G0 g_TO_HOME⟩, ⟨_, PySem.W.mg_of X G0 g_FILLED⟩, ⟨_, PySem.W.mg_of X G0 g_NOTHING⟩, ⟨_, PySem.W.mg_of X G0 g_SAW⟩, ⟨_, PySem.W.mg_of X G0 g_WENT⟩, ⟨_, PySem.W.mg_of X G0 g_CHARGED⟩, ⟨_, PySem.W.mg_of X G0 g_NO⟩, ⟨_, PySem.W.mg_of X G0 g_YES⟩, PySem.W.mg_none_of X G0 b_len, PySem.W.mg_none_of X G0 b_range, PySem.W.mg_none_of X G0 b_min, PySem.W.mg_none_of X G0 b_sorted, PySem.W.mg_none_of X G0 b_set⟩
  have G2 : Gl2 mg := ⟨⟨_, PySem.W.mg_of X G0 g_BAD_VALUE⟩, ⟨_, PySem.W.mg_of X G0 g_MOST_ROOM⟩⟩
  have G3 : Gl3 mg := ⟨⟨_, PySem.W.mg_of X G0 g_RV_START⟩, ⟨_, PySem.W.mg_of X G0 g_RV_STEP⟩, ⟨_, PySem.W.mg_of X G0 g_RV_HEARD⟩, ⟨_, PySem.W.mg_of X G0 g_RV_TICK⟩, ⟨_, PySem.W.mg_of X G0 g_RV_STATE⟩⟩
  have G4 : Gl4 mg := ⟨⟨_, PySem.W.mg_of X G0 g_HIGHEST_COST⟩, ⟨_, PySem.W.mg_of X G0 g_MOST_CELLS⟩, ⟨_, PySem.W.mg_of X G0 g_MOST_NUMBER⟩, ⟨_, PySem.W.mg_of X G0 g_NOT_ANSWERED⟩, ⟨_, PySem.W.mg_of X G0 g_NO_NUMBER_LEFT⟩, ⟨_, PySem.W.mg_of X G0 g_BS_START⟩, ⟨_, PySem.W.mg_of X G0 g_BS_AVOID⟩, ⟨_, PySem.W.mg_of X G0 g_BS_HEARD⟩, ⟨_, PySem.W.mg_of X G0 g_BS_TICK⟩, ⟨_, PySem.W.mg_of X G0 g_BS_MAP⟩, ⟨_, PySem.W.mg_of X G0 g_BS_STATE⟩⟩
  have RTx : RT K C_Rover := ⟨⟨pg_Rover, hd_Rover, po_Rover, sa_Rover⟩, na_Rover_size, na_Rover_beside, na_Rover_ground, na_Rover_home, na_Rover_room, na_Rover_costs, na_Rover_place, na_Rover_left, na_Rover_been, na_Rover_kept_out, na_Rover_seen, na_Rover_had, na_Rover_last_number, na_Rover_last_answer, na_Rover_ticks⟩
  have LTx : LT K C_Line := ⟨⟨pg_Line, hd_Line, po_Line, sa_Line⟩, na_Line_rover, na_Line_people⟩
  have PTx : PT_ K C_People := ⟨⟨pg_People, hd_People, po_People, sa_People⟩, na_People_size, na_People_costs, na_People_told, na_People_last_number, na_People_last_cell, na_People_last_answer, na_People_ticks⟩
  have C1 : Cal P w K mg base "message" 1 _ spMessage := ⟨_, _, m_message, k_message, b_message, ok_message F_message⟩
  have C2 : Cal P w K mg base "send" 2 _ spSend := ⟨_, _, m_send, k_send, b_send, ok_send F_send G C1⟩
  have C3 : Cal P w K mg base "number_of" 1 _ (spNumberOf K) := ⟨_, _, m_number_of, k_number_of, b_number_of, ok_numberOf F_number_of⟩
  have C4 : Cal P w K mg base "is_framed" 2 _ (spFramed K) := ⟨_, _, m_is_framed, k_is_framed, b_is_framed, ok_framed F_is_framed G C3⟩
  have C5 : Cal P w K mg base "is_keep_out" 3 _ (spKeepOut K) := ⟨_, _, m_is_keep_out, k_is_keep_out, b_is_keep_out, ok_keepOut F_is_keep_out G C4⟩
  have C6 : Cal P w K mg base "is_had" 3 _ (spHad K) := ⟨_, _, m_is_had, k_is_had, b_is_had, ok_had F_is_had G C4⟩
  have C7 : Cal P w K mg base "sides_fit" 1 _ spSides := ⟨_, _, m_sides_fit, k_sides_fit, b_sides_fit, ok_sides F_sides_fit G⟩
  have C8 : Cal P w K mg base "neighbours" 1 _ spNeighbours := ⟨_, _, m_neighbours, k_neighbours, b_neighbours, ok_neighbours F_neighbours⟩
  have C9 : Cal P w K mg base "all_neighbours" 2 _ spAllNb := ⟨_, _, m_all_neighbours, k_all_neighbours, b_all_neighbours, ok_allNb F_all_neighbours G C8⟩
  have C10 : Cal P w K mg base "weight" 1 _ spWeight := ⟨_, _, m_weight, k_weight, b_weight, ok_weight F_weight G⟩
  have C11 : Cal P w K mg base "lightest" 1 _ (spLightest K) := ⟨_, _, m_lightest, k_lightest, b_lightest, ok_lightest F_lightest G⟩
  have C12 : Cal P w K mg base "taken" 1 _ spTaken := ⟨_, _, m_taken, k_taken, b_taken, ok_taken F_taken G⟩
  have C13 : Cal P w K mg base "second_cell" 1 _ (spSecond K) := ⟨_, _, m_second_cell, k_second_cell, b_second_cell, ok_second F_second_cell G⟩
  have M1 : MCal P w K mg base C_Rover "weigh" 2 _ (spWeigh C_Rover) := ⟨_, _, t_Rover_weigh, b_Rover_weigh, ok_weigh F_Rover_weigh G RTx C10⟩
  have M2 : MCal P w K mg base C_Rover "send_seen" 3 _ (spSendSeen C_Rover) := ⟨_, _, t_Rover_send_seen, b_Rover_send_seen, ok_sendSeen F_Rover_send_seen G RTx C2⟩
  have M3 : MCal P w K mg base C_Rover "go" 1 _ (spGo C_Rover) := ⟨_, _, t_Rover_go, b_Rover_go, ok_go F_Rover_go G RTx⟩
  have M4 : MCal P w K mg base C_Rover "tick" 4 _ (spTick C_Rover) := ⟨_, _, t_Rover_tick, b_Rover_tick, ok_tick F_Rover_tick G RTx M2 (fun _ _ => by kernel_rfl)⟩
  have M5 : MCal P w K mg base C_Rover "state" 1 _ (spState C_Rover) := ⟨_, _, t_Rover_state, b_Rover_state, ok_state F_Rover_state G RTx⟩
  have M6 : MCal P w K mg base C_Rover "hear_had" 4 _ (spHearHad C_Rover) := ⟨_, _, t_Rover_hear_had, b_Rover_hear_had, ok_hearHad F_Rover_hear_had G RTx M2 (fun _ _ => by kernel_rfl)⟩
  have M7 : MCal P w K mg base C_Rover "can_keep_out" 3 _ (spCan C_Rover) := ⟨_, _, t_Rover_can_keep_out, b_Rover_can_keep_out, ok_can F_Rover_can_keep_out G RTx M1 C11 C12 (fun _ _ => by kernel_rfl)⟩
  have M8 : MCal P w K mg base C_Rover "hear_keep_out" 4 _ (spHearOut C_Rover) := ⟨_, _, t_Rover_hear_keep_out, b_Rover_hear_keep_out, ok_hearOut F_Rover_hear_keep_out G RTx M7 C2 (fun _ _ => by kernel_rfl)⟩
  have M9 : MCal P w K mg base C_Rover "hear" 5 _ (spHear C_Rover) := ⟨_, _, t_Rover_hear, b_Rover_hear, ok_hear F_Rover_hear G RTx C5 C6 C3 M8 M6 (fun _ _ => by kernel_rfl) (fun _ _ => by kernel_rfl)⟩
  have M10 : MCal P w K mg base C_Rover "unknown_in_sight" 1 _ (spUnknown C_Rover) := ⟨_, _, t_Rover_unknown_in_sight, b_Rover_unknown_in_sight, ok_unknown F_Rover_unknown_in_sight G RTx⟩
  have M11 : MCal P w K mg base C_Rover "look" 4 _ (spLook C_Rover) := ⟨_, _, t_Rover_look, b_Rover_look, ok_look F_Rover_look G RTx M2 (fun _ _ => by kernel_rfl)⟩
  have M12 : MCal P w K mg base C_Rover "choose_goal" 2 _ (spChoose C_Rover) := ⟨_, _, t_Rover_choose_goal, b_Rover_choose_goal, ok_choose F_Rover_choose_goal G RTx C11 C12⟩
  have nmStep : ∀ m, m ∈ (["unknown_in_sight", "look", "weigh", "choose_goal", "go"] : List Str) → ∀ A r, (rf A r).lookup m = none := by
    intro m hm A r
    simp only [List.mem_cons, List.not_mem_nil, or_false] at hm
    rcases hm with rfl | rfl | rfl | rfl | rfl <;> kernel_rfl
  have M13 : MCal P w K mg base C_Rover "step" 5 _ (spStep C_Rover) := ⟨_, _, t_Rover_step, b_Rover_step, ok_step F_Rover_step G RTx M10 M11 M1 C11 M12 M3 C13 nmStep⟩
  have N1 : MkCal P w K mg base "Rover" C_Rover 3 _ (spInit C_Rover) := ⟨_, _, m_Rover, ⟨mk_Rover, a_Rover___init__, i_Rover___init__, kc_Rover⟩, b_Rover___init__, ok_init F_Rover___init__ G RTx C9⟩
  have N2 : MkCal P w K mg base "Line" C_Line 1 _ (spLineInit C_Line) := ⟨_, _, m_Line, ⟨mk_Line, a_Line___init__, i_Line___init__, kc_Line⟩, b_Line___init__, ok_lineInit F_Line___init__ LTx⟩
  have M14 : MCal P w K mg base C_Line "start_rover" 5 _ (spStartRover C_Rover C_Line) := ⟨_, _, t_Line_start_rover, b_Line_start_rover, ok_startRover F_Line_start_rover G2 LTx C7 N1⟩
  have C14 : Cal P w K mg base "is_cost" 1 _ spIsCost := ⟨_, _, m_is_cost, k_is_cost, b_is_cost, ok_isCost F_is_cost G G4⟩
  have C15 : Cal P w K mg base "is_seen" 3 _ (spIsSeen K) := ⟨_, _, m_is_seen, k_is_seen, b_is_seen, ok_isSeen F_is_seen G C4 C14⟩
  have C16 : Cal P w K mg base "is_answer" 3 _ (spIsAns K) := ⟨_, _, m_is_answer, k_is_answer, b_is_answer, ok_isAns F_is_answer G C4⟩
  have C17 : Cal P w K mg base "has_row" 1 _ spHasRow := ⟨_, _, m_has_row, k_has_row, b_has_row, ok_hasRow F_has_row G3 G4⟩
  have B1 : MCal P w K mg base C_People "waits" 1 _ (spWaits C_People) := ⟨_, _, t_People_waits, b_People_waits, ok_waits F_People_waits PTx⟩
  have B2 : MCal P w K mg base C_People "send_keep_out" 3 _ (spSendOut C_People) := ⟨_, _, t_People_send_keep_out, b_People_send_keep_out, ok_sendOut F_People_send_keep_out G PTx C2⟩
  have B3 : MCal P w K mg base C_People "tick" 4 _ (spPTick C_People) := ⟨_, _, t_People_tick, b_People_tick, ok_pTick F_People_tick G PTx B1 B2⟩
  have B4 : MCal P w K mg base C_People "avoid" 4 _ (spAvoid C_People) := ⟨_, _, t_People_avoid, b_People_avoid, ok_avoid F_People_avoid G2 G4 PTx B1 B2⟩
  have B5 : MCal P w K mg base C_People "hear_answer" 1 _ (spHearAns C_People) := ⟨_, _, t_People_hear_answer, b_People_hear_answer, ok_hearAns F_People_hear_answer PTx⟩
  have B6 : MCal P w K mg base C_People "hear_seen" 3 _ (spHearSeen C_People) := ⟨_, _, t_People_hear_seen, b_People_hear_seen, ok_hearSeen F_People_hear_seen G PTx C2⟩
  have B7 : MCal P w K mg base C_People "hear" 4 _ (spPHear C_People) := ⟨_, _, t_People_hear, b_People_hear, ok_pHear F_People_hear G PTx C15 C16 C3 B6 B5⟩
  have B8 : MCal P w K mg base C_People "whole_map" 1 _ (spWhole C_People) := ⟨_, _, t_People_whole_map, b_People_whole_map, ok_whole F_People_whole_map G4 PTx⟩
  have B9 : MCal P w K mg base C_People "state" 1 _ (spPState C_People) := ⟨_, _, t_People_state, b_People_state, ok_pState F_People_state PTx⟩
  have N3 : MkCal P w K mg base "People" C_People 1 _ (spPInit C_People) := ⟨_, _, m_People, ⟨mk_People, a_People___init__, i_People___init__, kc_People⟩, b_People___init__, ok_pInit F_People___init__ PTx⟩
  have M15 : MCal P w K mg base C_Line "start_people" 3 _ (spStartPeople C_People C_Line) := ⟨_, _, t_Line_start_people, b_Line_start_people, ok_startPeople F_Line_start_people G2 LTx C7 N3⟩
  have M16 : MCal P w K mg base C_Line "answer_on_rover" 6 _ (spOn (lineForm C_Rover C_Line (pplForm C_People)) (fun p => p < 5)) := ⟨_, _, t_Line_answer_on_rover, b_Line_answer_on_rover, ok_onRover F_Line_answer_on_rover G3 LTx RTx M13 M9 M4 M5 M14⟩
  have M17 : MCal P w K mg base C_Line "answer_on_people" 6 _ (spOn (lineForm C_Rover C_Line (pplForm C_People)) (fun p => ¬ p < 5)) := ⟨_, _, t_Line_answer_on_people, b_Line_answer_on_people, ok_onPeople F_Line_answer_on_people G4 LTx PTx B4 B7 B3 B8 B9 M15⟩
  have M18 : MCal P w K mg base C_Line "answer" 7 _ (spAnswer (lineForm C_Rover C_Line (pplForm C_People))) := ⟨_, _, t_Line_answer, b_Line_answer, ok_answer F_Line_answer G4 LTx M16 M17⟩
  exact ok_answers F_answers G LTx (lineForm C_Rover C_Line (pplForm C_People)) N2 C17 M18 m_PLAIN_LENGTHS (plain_lengths q_PLAIN_LENGTHS) (line_start C_Rover C_Line (pplForm C_People)) (fun _ _ => by kernel_rfl)
end Rv
open PySem PySem.W PyProof.Rows
set_option maxRecDepth 100000 in
set_option maxHeartbeats 0 in
theorem PySem.Challenge.cw_roverhome_s01_answers_holds : PySem.Challenge.rw_roverhome_s01_answers.Holds := by
  w_on
  refine holds_os (q := Rv.view0) (loose := []) (XP := XL Rv.view0 []) (Yf := Hook.obs (kHook Rv.K0 Rv.as0 Rv.as0_is)) (Ya := Hook.val (kHook Rv.K0 Rv.as0 Rv.as0_is)) (YP := Hook.says (kHook Rv.K0 Rv.as0 Rv.as0_is)) (N := 2700) Rv.left0
    (Hook.of (kHook Rv.K0 Rv.as0 Rv.as0_is)) (Hook.keeps (kHook Rv.K0 Rv.as0 Rv.as0_is)) (fun s z => xl_of s (Bool.and_eq_true_iff.mp z).1) XL.keeps (by rfl) (by rfl) (by rfl) (fun s z => recFacts_of (Bool.and_eq_true_iff.mp z).2) os_shapes
    (by decide +kernel) (by decide +kernel) ⟨rfl, rfl, rfl, rfl, rfl, by decide +kernel⟩ ⟨[.list [.int 5, .int 1, .int 1]], by decide +kernel, by decide +kernel⟩ ?_
  k_fillS
  refine L2.walk_specK (r := PySem.Challenge.rw_roverhome_s01_answers) (k := 8) (CX := L2.CX0) (ps := ["calls"]) (sp := Rv.spAnswers) (by decide +kernel) rfl rfl ⟨rfl, by decide, by decide⟩ (fun w h Y => PySem.W.kIn_of Y) ?F ?S (fun _ _ _ _ z => z)
  case F =>
    intro w mg fa h Y KX G hmg
    refine' Rv.all_mk KX G hmg ?n_People ?n_Rover ?n_Line ?a_sides_fit ?l_sides_fit ?c_sides_fit ?k_sides_fit ?a_is_cost ?l_is_cost ?c_is_cost ?k_is_cost ?a_neighbours ?l_neighbours ?c_neighbours ?k_neighbours ?a_all_neighbours ?l_all_neighbours ?c_all_neighbours ?k_all_neighbours ?a_weight ?l_weight ?c_weight ?k_weight ?a_lightest ?l_lightest ?c_lightest ?k_lightest ?a_taken ?l_taken ?c_taken ?k_taken ?a_second_cell ?l_second_cell ?c_second_cell ?k_second_cell ?a_message ?l_message ?c_message ?k_message ?a_send ?l_send ?c_send ?k_send ?a_number_of ?l_number_of ?c_number_of ?k_number_of ?a_is_framed ?l_is_framed ?c_is_framed ?k_is_framed ?a_is_keep_out ?l_is_keep_out ?c_is_keep_out ?k_is_keep_out ?a_is_had ?l_is_had ?c_is_had ?k_is_had ?a_is_seen ?l_is_seen ?c_is_seen ?k_is_seen ?a_is_answer ?l_is_answer ?c_is_answer ?k_is_answer ?a_People___init__ ?i_People___init__ ?l_People___init__ ?c_People___init__ ?k_People___init__ ?a_People_waits ?i_People_waits ?l_People_waits ?c_People_waits ?k_People_waits ?a_People_avoid ?i_People_avoid ?l_People_avoid ?c_People_avoid ?k_People_avoid ?a_People_send_keep_out ?i_People_send_keep_out ?l_People_send_keep_out ?c_People_send_keep_out ?k_People_send_keep_out ?a_People_hear ?i_People_hear ?l_People_hear ?c_People_hear ?k_People_hear ?a_People_hear_seen ?i_People_hear_seen ?l_People_hear_seen ?c_People_hear_seen ?k_People_hear_seen ?a_People_hear_answer ?i_People_hear_answer ?l_People_hear_answer ?c_People_hear_answer ?k_People_hear_answer ?a_People_tick ?i_People_tick ?l_People_tick ?c_People_tick ?k_People_tick ?a_People_whole_map ?i_People_whole_map ?l_People_whole_map ?c_People_whole_map ?k_People_whole_map ?a_People_state ?i_People_state ?l_People_state ?c_People_state ?k_People_state ?a_Rover___init__ ?i_Rover___init__ ?l_Rover___init__ ?c_Rover___init__ ?k_Rover___init__ ?a_Rover_step ?i_Rover_step ?l_Rover_step ?c_Rover_step ?k_Rover_step ?a_Rover_unknown_in_sight ?i_Rover_unknown_in_sight ?l_Rover_unknown_in_sight ?c_Rover_unknown_in_sight ?k_Rover_unknown_in_sight ?a_Rover_look ?i_Rover_look ?l_Rover_look ?c_Rover_look ?k_Rover_look ?a_Rover_weigh ?i_Rover_weigh ?l_Rover_weigh ?c_Rover_weigh ?k_Rover_weigh ?a_Rover_choose_goal ?i_Rover_choose_goal ?l_Rover_choose_goal ?c_Rover_choose_goal ?k_Rover_choose_goal ?a_Rover_go ?i_Rover_go ?l_Rover_go ?c_Rover_go ?k_Rover_go ?a_Rover_send_seen ?i_Rover_send_seen ?l_Rover_send_seen ?c_Rover_send_seen ?k_Rover_send_seen ?a_Rover_hear ?i_Rover_hear ?l_Rover_hear ?c_Rover_hear ?k_Rover_hear ?a_Rover_hear_keep_out ?i_Rover_hear_keep_out ?l_Rover_hear_keep_out ?c_Rover_hear_keep_out ?k_Rover_hear_keep_out ?a_Rover_can_keep_out ?i_Rover_can_keep_out ?l_Rover_can_keep_out ?c_Rover_can_keep_out ?k_Rover_can_keep_out ?a_Rover_hear_had ?i_Rover_hear_had ?l_Rover_hear_had ?c_Rover_hear_had ?k_Rover_hear_had ?a_Rover_tick ?i_Rover_tick ?l_Rover_tick ?c_Rover_tick ?k_Rover_tick ?a_Rover_state ?i_Rover_state ?l_Rover_state ?c_Rover_state ?k_Rover_state ?a_Line___init__ ?i_Line___init__ ?l_Line___init__ ?c_Line___init__ ?k_Line___init__ ?a_Line_start_rover ?i_Line_start_rover ?l_Line_start_rover ?c_Line_start_rover ?k_Line_start_rover ?a_Line_start_people ?i_Line_start_people ?l_Line_start_people ?c_Line_start_people ?k_Line_start_people ?a_Line_answer ?i_Line_answer ?l_Line_answer ?c_Line_answer ?k_Line_answer ?a_Line_answer_on_rover ?i_Line_answer_on_rover ?l_Line_answer_on_rover ?c_Line_answer_on_rover ?k_Line_answer_on_rover ?a_Line_answer_on_people ?i_Line_answer_on_people ?l_Line_answer_on_people ?c_Line_answer_on_people ?k_Line_answer_on_people ?a_has_row ?l_has_row ?c_has_row ?k_has_row ?a_answers ?l_answers ?c_answers ?k_answers ?pg_People ?hd_People ?po_People ?sa_People ?mk_People ?kc_People ?na_People_size ?na_People_costs ?na_People_told ?na_People_last_number ?na_People_last_cell ?na_People_last_answer ?na_People_ticks ?pg_Rover ?hd_Rover ?po_Rover ?sa_Rover ?mk_Rover ?kc_Rover ?na_Rover_size ?na_Rover_beside ?na_Rover_ground ?na_Rover_home ?na_Rover_room ?na_Rover_costs ?na_Rover_place ?na_Rover_left ?na_Rover_been ?na_Rover_kept_out ?na_Rover_seen ?na_Rover_had ?na_Rover_last_number ?na_Rover_last_answer ?na_Rover_ticks ?pg_Line ?hd_Line ?po_Line ?sa_Line ?mk_Line ?kc_Line ?na_Line_rover ?na_Line_people ?g_CLOSED ?g_HIGHEST_COST ?g_LONGEST_SIDE ?g_MOST_CELLS ?g_SHARE ?g_KEEP_OUT ?g_HAD ?g_SEEN ?g_ANSWER ?g_LENGTH ?g_MOST_NUMBER ?g_NO ?g_YES ?g_SENT ?g_TICKS_APART ?g_BAD_VALUE ?g_BAD_MESSAGE ?g_NOT_ANSWERED ?g_NO_NUMBER_LEFT ?g_LOOKED ?g_TO_GOAL ?g_TO_HOME ?g_FILLED ?g_NOTHING ?g_SAW ?g_WENT ?g_CHARGED ?g_RV_START ?g_RV_STEP ?g_RV_HEARD ?g_RV_TICK ?g_RV_STATE ?g_BS_START ?g_BS_AVOID ?g_BS_HEARD ?g_BS_TICK ?g_BS_MAP ?g_BS_STATE ?g_MOST_ROOM ?g_PLAIN_LENGTHS ?q_PLAIN_LENGTHS ?b_len ?b_range ?b_min ?b_sorted ?b_set
    (case n_People => k_is)
    (case n_Rover => k_is)
    (case n_Line => k_is)
    (case a_sides_fit => k_is)
    (case l_sides_fit => k_is)
    (case c_sides_fit => k_is)
    (case k_sides_fit => k_is)
    (case a_is_cost => k_is)
    (case l_is_cost => k_is)
    (case c_is_cost => k_is)
    (case k_is_cost => k_is)
    (case a_neighbours => k_is)
    (case l_neighbours => k_is)
    (case c_neighbours => k_is)
    (case k_neighbours => k_is)
    (case a_all_neighbours => k_is)
    (case l_all_neighbours => k_is)
    (case c_all_neighbours => k_is)
    (case k_all_neighbours => k_is)
    (case a_weight => k_is)
    (case l_weight => k_is)
    (case c_weight => k_is)
    (case k_weight => k_is)
    (case a_lightest => k_is)
    (case l_lightest => k_is)
    (case c_lightest => k_is)
    (case k_lightest => k_is)
    (case a_taken => k_is)
    (case l_taken => k_is)
    (case c_taken => k_is)
    (case k_taken => k_is)
    (case a_second_cell => k_is)
    (case l_second_cell => k_is)
    (case c_second_cell => k_is)
    (case k_second_cell => k_is)
    (case a_message => k_is)
    (case l_message => k_is)
    (case c_message => k_is)
    (case k_message => k_is)
    (case a_send => k_is)
    (case l_send => k_is)
    (case c_send => k_is)
    (case k_send => k_is)
    (case a_number_of => k_is)
    (case l_number_of => k_is)
    (case c_number_of => k_is)
    (case k_number_of => k_is)
    (case a_is_framed => k_is)
    (case l_is_framed => k_is)
    (case c_is_framed => k_is)
    (case k_is_framed => k_is)
    (case a_is_keep_out => k_is)
    (case l_is_keep_out => k_is)
    (case c_is_keep_out => k_is)
    (case k_is_keep_out => k_is)
    (case a_is_had => k_is)
    (case l_is_had => k_is)
    (case c_is_had => k_is)
    (case k_is_had => k_is)
    (case a_is_seen => k_is)
    (case l_is_seen => k_is)
    (case c_is_seen => k_is)
    (case k_is_seen => k_is)
    (case a_is_answer => k_is)
    (case l_is_answer => k_is)
    (case c_is_answer => k_is)
    (case k_is_answer => k_is)
    (case a_People___init__ => k_is)
    (case i_People___init__ => k_is)
    (case l_People___init__ => k_is)
    (case c_People___init__ => k_is)
    (case k_People___init__ => k_is)
    (case a_People_waits => k_is)
    (case i_People_waits => k_is)
    (case l_People_waits => k_is)
    (case c_People_waits => k_is)
    (case k_People_waits => k_is)
    (case a_People_avoid => k_is)
    (case i_People_avoid => k_is)
    (case l_People_avoid => k_is)
    (case c_People_avoid => k_is)
    (case k_People_avoid => k_is)
    (case a_People_send_keep_out => k_is)
    (case i_People_send_keep_out => k_is)
    (case l_People_send_keep_out => k_is)
    (case c_People_send_keep_out => k_is)
    (case k_People_send_keep_out => k_is)
    (case a_People_hear => k_is)
    (case i_People_hear => k_is)
    (case l_People_hear => k_is)
    (case c_People_hear => k_is)
    (case k_People_hear => k_is)
    (case a_People_hear_seen => k_is)
    (case i_People_hear_seen => k_is)
    (case l_People_hear_seen => k_is)
    (case c_People_hear_seen => k_is)
    (case k_People_hear_seen => k_is)
    (case a_People_hear_answer => k_is)
    (case i_People_hear_answer => k_is)
    (case l_People_hear_answer => k_is)
    (case c_People_hear_answer => k_is)
    (case k_People_hear_answer => k_is)
    (case a_People_tick => k_is)
    (case i_People_tick => k_is)
    (case l_People_tick => k_is)
    (case c_People_tick => k_is)
    (case k_People_tick => k_is)
    (case a_People_whole_map => k_is)
    (case i_People_whole_map => k_is)
    (case l_People_whole_map => k_is)
    (case c_People_whole_map => k_is)
    (case k_People_whole_map => k_is)
    (case a_People_state => k_is)
    (case i_People_state => k_is)
    (case l_People_state => k_is)
    (case c_People_state => k_is)
    (case k_People_state => k_is)
    (case a_Rover___init__ => k_is)
    (case i_Rover___init__ => k_is)
    (case l_Rover___init__ => k_is)
    (case c_Rover___init__ => k_is)
    (case k_Rover___init__ => k_is)
    (case a_Rover_step => k_is)
    (case i_Rover_step => k_is)
    (case l_Rover_step => k_is)
    (case c_Rover_step => k_is)
    (case k_Rover_step => k_is)
    (case a_Rover_unknown_in_sight => k_is)
    (case i_Rover_unknown_in_sight => k_is)
    (case l_Rover_unknown_in_sight => k_is)
    (case c_Rover_unknown_in_sight => k_is)
    (case k_Rover_unknown_in_sight => k_is)
    (case a_Rover_look => k_is)
    (case i_Rover_look => k_is)
    (case l_Rover_look => k_is)
    (case c_Rover_look => k_is)
    (case k_Rover_look => k_is)
    (case a_Rover_weigh => k_is)
    (case i_Rover_weigh => k_is)
    (case l_Rover_weigh => k_is)
    (case c_Rover_weigh => k_is)
    (case k_Rover_weigh => k_is)
    (case a_Rover_choose_goal => k_is)
    (case i_Rover_choose_goal => k_is)
    (case l_Rover_choose_goal => k_is)
    (case c_Rover_choose_goal => k_is)
    (case k_Rover_choose_goal => k_is)
    (case a_Rover_go => k_is)
    (case i_Rover_go => k_is)
    (case l_Rover_go => k_is)
    (case c_Rover_go => k_is)
    (case k_Rover_go => k_is)
    (case a_Rover_send_seen => k_is)
    (case i_Rover_send_seen => k_is)
    (case l_Rover_send_seen => k_is)
    (case c_Rover_send_seen => k_is)
    (case k_Rover_send_seen => k_is)
    (case a_Rover_hear => k_is)
    (case i_Rover_hear => k_is)
    (case l_Rover_hear => k_is)
    (case c_Rover_hear => k_is)
    (case k_Rover_hear => k_is)
    (case a_Rover_hear_keep_out => k_is)
    (case i_Rover_hear_keep_out => k_is)
    (case l_Rover_hear_keep_out => k_is)
    (case c_Rover_hear_keep_out => k_is)
    (case k_Rover_hear_keep_out => k_is)
    (case a_Rover_can_keep_out => k_is)
    (case i_Rover_can_keep_out => k_is)
    (case l_Rover_can_keep_out => k_is)
    (case c_Rover_can_keep_out => k_is)
    (case k_Rover_can_keep_out => k_is)
    (case a_Rover_hear_had => k_is)
    (case i_Rover_hear_had => k_is)
    (case l_Rover_hear_had => k_is)
    (case c_Rover_hear_had => k_is)
    (case k_Rover_hear_had => k_is)
    (case a_Rover_tick => k_is)
    (case i_Rover_tick => k_is)
    (case l_Rover_tick => k_is)
    (case c_Rover_tick => k_is)
    (case k_Rover_tick => k_is)
    (case a_Rover_state => k_is)
    (case i_Rover_state => k_is)
    (case l_Rover_state => k_is)
    (case c_Rover_state => k_is)
    (case k_Rover_state => k_is)
    (case a_Line___init__ => k_is)
    (case i_Line___init__ => k_is)
    (case l_Line___init__ => k_is)
    (case c_Line___init__ => k_is)
    (case k_Line___init__ => k_is)
    (case a_Line_start_rover => k_is)
    (case i_Line_start_rover => k_is)
    (case l_Line_start_rover => k_is)
    (case c_Line_start_rover => k_is)
    (case k_Line_start_rover => k_is)
    (case a_Line_start_people => k_is)
    (case i_Line_start_people => k_is)
    (case l_Line_start_people => k_is)
    (case c_Line_start_people => k_is)
    (case k_Line_start_people => k_is)
    (case a_Line_answer => k_is)
    (case i_Line_answer => k_is)
    (case l_Line_answer => k_is)
    (case c_Line_answer => k_is)
    (case k_Line_answer => k_is)
    (case a_Line_answer_on_rover => k_is)
    (case i_Line_answer_on_rover => k_is)
    (case l_Line_answer_on_rover => k_is)
    (case c_Line_answer_on_rover => k_is)
    (case k_Line_answer_on_rover => k_is)
    (case a_Line_answer_on_people => k_is)
    (case i_Line_answer_on_people => k_is)
    (case l_Line_answer_on_people => k_is)
    (case c_Line_answer_on_people => k_is)
    (case k_Line_answer_on_people => k_is)
    (case a_has_row => k_is)
    (case l_has_row => k_is)
    (case c_has_row => k_is)
    (case k_has_row => k_is)
    (case a_answers => k_is)
    (case l_answers => k_is)
    (case c_answers => k_is)
    (case k_answers => k_is)
    (case pg_People => k_is)
    (case hd_People => k_is)
    (case po_People => k_is)
    (case sa_People => k_is)
    (case mk_People => k_is)
    (case kc_People => k_is)
    (case na_People_size => k_is)
    (case na_People_costs => k_is)
    (case na_People_told => k_is)
    (case na_People_last_number => k_is)
    (case na_People_last_cell => k_is)
    (case na_People_last_answer => k_is)
    (case na_People_ticks => k_is)
    (case pg_Rover => k_is)
    (case hd_Rover => k_is)
    (case po_Rover => k_is)
    (case sa_Rover => k_is)
    (case mk_Rover => k_is)
    (case kc_Rover => k_is)
    (case na_Rover_size => k_is)
    (case na_Rover_beside => k_is)
    (case na_Rover_ground => k_is)
    (case na_Rover_home => k_is)
    (case na_Rover_room => k_is)
    (case na_Rover_costs => k_is)
    (case na_Rover_place => k_is)
    (case na_Rover_left => k_is)
    (case na_Rover_been => k_is)
    (case na_Rover_kept_out => k_is)
    (case na_Rover_seen => k_is)
    (case na_Rover_had => k_is)
    (case na_Rover_last_number => k_is)
    (case na_Rover_last_answer => k_is)
    (case na_Rover_ticks => k_is)
    (case pg_Line => k_is)
    (case hd_Line => k_is)
    (case po_Line => k_is)
    (case sa_Line => k_is)
    (case mk_Line => k_is)
    (case kc_Line => k_is)
    (case na_Line_rover => k_is)
    (case na_Line_people => k_is)
    (case g_CLOSED => k_is)
    (case g_HIGHEST_COST => k_is)
    (case g_LONGEST_SIDE => k_is)
    (case g_MOST_CELLS => k_is)
    (case g_SHARE => k_is)
    (case g_KEEP_OUT => k_is)
    (case g_HAD => k_is)
    (case g_SEEN => k_is)
    (case g_ANSWER => k_is)
    (case g_LENGTH => k_is)
    (case g_MOST_NUMBER => k_is)
    (case g_NO => k_is)
    (case g_YES => k_is)
    (case g_SENT => k_is)
    (case g_TICKS_APART => k_is)
    (case g_BAD_VALUE => k_is)
    (case g_BAD_MESSAGE => k_is)
    (case g_NOT_ANSWERED => k_is)
    (case g_NO_NUMBER_LEFT => k_is)
    (case g_LOOKED => k_is)
    (case g_TO_GOAL => k_is)
    (case g_TO_HOME => k_is)
    (case g_FILLED => k_is)
    (case g_NOTHING => k_is)
    (case g_SAW => k_is)
    (case g_WENT => k_is)
    (case g_CHARGED => k_is)
    (case g_RV_START => k_is)
    (case g_RV_STEP => k_is)
    (case g_RV_HEARD => k_is)
    (case g_RV_TICK => k_is)
    (case g_RV_STATE => k_is)
    (case g_BS_START => k_is)
    (case g_BS_AVOID => k_is)
    (case g_BS_HEARD => k_is)
    (case g_BS_TICK => k_is)
    (case g_BS_MAP => k_is)
    (case g_BS_STATE => k_is)
    (case g_MOST_ROOM => k_is)
    (case g_PLAIN_LENGTHS => k_is)
    (case q_PLAIN_LENGTHS => k_is)
    (case b_len => k_is)
    (case b_range => k_is)
    (case b_min => k_is)
    (case b_sorted => k_is)
    (case b_set => k_is)
  case S =>
    intro K H xs a hO hwi hask hx
    cases hx with
    | cons h1 h2 =>
      cases h2
      cases h1 with
      | lst hs ha =>
        have e := L2.ints_dw a.1 _ ha
        subst e
        exact ⟨_, a.1, rfl, hs, hask, fun H' p hp => .lst (L2.SqL.of hp) (L2.dw_ints _)⟩
#print axioms PySem.Challenge.cw_roverhome_s01_answers_holds
