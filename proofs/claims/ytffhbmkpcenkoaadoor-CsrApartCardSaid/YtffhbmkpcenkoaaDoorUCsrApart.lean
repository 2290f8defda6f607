/- CsrApart: what is told of it ahead. -/
import Derived.Test.YtffhbmkpcenkoaaDoorUd
import Derived.Test.YtffhbmkpcenkoaaDoorTCsrMade
set_option linter.unusedVariables false
set_option linter.unusedSimpArgs false
namespace Go.Proofs.YtffhbmkpcenkoaaDoor.Sx
open Go
noncomputable section
set_option maxRecDepth 100000
/-- A table of the start, as a block. -/
def tbk (i : Nat) : Nat × Blk := (i, match tat tabs i with | some t => .ro t.cells | none => .dead)
noncomputable abbrev lawFn : Func := Tryd.f5
noncomputable abbrev lawBody : Code := ((Tryd.f5.body).getD .skip)
noncomputable abbrev lawEv : Ev := ev Tryd.prog (tabGlob tabs) base 1645504557321206042154969182557350504982735865633579863348346156 30
def lawPs : List Ps := [.flat [some .u64, some .u64, some .u64, some .u64, some .u64, some .u64, some .u64, some .u64, some .u64, some .u64, some .u64, some .u64, some .u64, some .u64, some .u64, some .u64, some .u64, some .u64, some .u64, some .u64, some .u64, some .u64, some .u64, some .u64, some .u64, some .u64, some .u64, some .u64, some .u64, some .u64, some .u64], .flat [some .u16, some .u8, some .u64, some .u64], .one (some .u16)]
def q0 : N := (.lt (.var 35 0 65535) (.lit 320))
def q1 : N := (.lt (.var 35 0 65535) (.lit 768))
def q2 : N := (.lt (.var 35 0 65535) (.lit 944))
def q3 : N := (.lt (.var 31 0 65535) (.lit 256))
def q4 : N := (.lt (.var 31 0 65535) (.lit 257))
def q5 : N := (.lt (.var 31 0 65535) (.lit 320))
def q6 : N := (.lt (.var 31 0 65535) (.lit 832))
def q7 : N := (.lt (.var 35 0 65535) (.lit 832))
def q8 : N := (.lt (.var 35 0 65535) (.lit 952))
def q9 : N := (.lt (.var 35 0 65535) (.lit 3072))
def q10 : N := (.lt (.var 35 0 65535) (.lit 3857))
def q11 : N := (.eq (.var 31 0 65535) (.lit 256))
def q12 : N := (.lt (.var 31 0 65535) (.lit 260))
def q13 : N := (.eq (.var 31 0 65535) (.lit 260))
def q14 : N := (.lt (.var 31 0 65535) (.lit 263))
def q15 : N := (.eq (.var 31 0 65535) (.lit 261))
def q16 : N := (.eq (.var 31 0 65535) (.lit 262))
def q17 : N := (.eq (.var 31 0 65535) (.lit 320))
def q18 : N := (.lt (.var 31 0 65535) (.lit 325))
def q19 : N := (.lt (.var 31 0 65535) (.lit 385))
def q20 : N := (.eq (.var 31 0 65535) (.lit 321))
def q21 : N := (.eq (.var 31 0 65535) (.lit 322))
def q22 : N := (.eq (.var 31 0 65535) (.lit 323))
def q23 : N := (.eq (.var 31 0 65535) (.lit 324))
def q24 : N := (.lt (.var 31 0 65535) (.lit 384))
def q25 : N := (.eq (.var 31 0 65535) (.lit 384))
def q26 : N := (.lt (.var 31 0 65535) (.lit 768))
def q27 : N := (.eq (.var 31 0 65535) (.lit 768))
def q28 : N := (.lt (.var 31 0 65535) (.lit 775))
def q29 : N := (.eq (.var 31 0 65535) (.lit 769))
def q30 : N := (.eq (.var 31 0 65535) (.lit 770))
def q31 : N := (.eq (.var 31 0 65535) (.lit 771))
def q32 : N := (.eq (.var 31 0 65535) (.lit 772))
def q33 : N := (.eq (.var 31 0 65535) (.lit 773))
def q34 : N := (.eq (.var 31 0 65535) (.lit 774))
def q35 : N := (.eq (.var 31 0 65535) (.lit 832))
def q36 : N := (.lt (.var 31 0 65535) (.lit 837))
def q37 : N := (.lt (.var 31 0 65535) (.lit 929))
def q38 : N := (.lt (.var 31 0 65535) (.lit 2816))
def q39 : N := (.eq (.var 31 0 65535) (.lit 833))
def q40 : N := (.eq (.var 31 0 65535) (.lit 834))
def q41 : N := (.eq (.var 31 0 65535) (.lit 835))
def q42 : N := (.eq (.var 31 0 65535) (.lit 836))
def q43 : N := (.lt (.var 31 0 65535) (.lit 928))
def q44 : N := (.eq (.var 31 0 65535) (.lit 928))
def q45 : N := (.lt (.var 31 0 65535) (.lit 944))
def q46 : N := (.eq (.var 31 0 65535) (.lit 944))
def q47 : N := (.lt (.var 31 0 65535) (.lit 952))
def q48 : N := (.eq (.var 31 0 65535) (.lit 945))
def q49 : N := (.eq (.var 31 0 65535) (.lit 946))
def q50 : N := (.eq (.var 31 0 65535) (.lit 947))
def q51 : N := (.eq (.var 31 0 65535) (.lit 948))
def q52 : N := (.eq (.var 31 0 65535) (.lit 949))
def q53 : N := (.eq (.var 31 0 65535) (.lit 950))
def q54 : N := (.eq (.var 31 0 65535) (.lit 951))
def q55 : N := (.eq (.var 31 0 65535) (.lit 2816))
def q56 : N := (.lt (.var 31 0 65535) (.lit 2819))
def q57 : N := (.lt (.var 31 0 65535) (.lit 3075))
def q58 : N := (.eq (.var 31 0 65535) (.lit 2818))
def q59 : N := (.lt (.var 31 0 65535) (.lit 3072))
def q60 : N := (.eq (.var 31 0 65535) (.lit 3072))
def q61 : N := (.eq (.var 31 0 65535) (.lit 3073))
def q62 : N := (.eq (.var 31 0 65535) (.lit 3074))
def q63 : N := (.lt (.var 31 0 65535) (.lit 3857))
def q64 : N := (.eq (.var 31 0 65535) (.lit 3857))
def q65 : N := (.lt (.var 31 0 65535) (.lit 3861))
def q66 : N := (.eq (.var 31 0 65535) (.lit 3858))
def q67 : N := (.eq (.var 31 0 65535) (.lit 3859))
def q68 : N := (.eq (.var 31 0 65535) (.lit 3860))
def placesE : List Sx.Place := []
def excE : List Pc := []
def lf0 : Nat := 1645504557321206042154969182557350504982735865633579863348346156
theorem excE_no : ∀ q ∈ excE, ∀ i, ¬ Holds i q := by intro q hq; cases hq
theorem placesE_paths : ∀ p ∈ placesE, pathsOk p.stk := fun p h => by cases h
def sS0 : V := .n .u64 (.var 300 0 18446744073709551615)
def sS1 : V := .n .u64 (.var 301 0 18446744073709551615)
def sS2 : V := .n .u64 (.var 302 0 2730)
def sS3 : V := .n .u64 (.var 303 0 546)
def sS4 : V := .n .u64 (.var 304 0 2696)
def sS5 : V := .n .u64 (.var 305 0 46079)
def sS6 : V := .n .u64 (.var 306 0 546)
def sS7 : V := .n .u64 (.var 307 0 18446744073709551613)
def sS8 : V := .n .u64 (.var 308 0 18446744073709551614)
def sS9 : V := .n .u64 (.var 309 0 18446744073709551615)
def sS10 : V := .n .u64 (.var 310 0 18446744073709551615)
def sS11 : V := .n .u64 (.var 311 0 18446744073709551615)
def sS12 : V := .n .u64 (.var 312 0 7)
def sS13 : V := .n .u64 (.var 313 0 18446744073709551613)
def sS14 : V := .n .u64 (.var 314 0 18446744073709551614)
def sS15 : V := .n .u64 (.var 315 0 18446744073709551615)
def sS16 : V := .n .u64 (.var 316 0 18446744073709551615)
def sS17 : V := .n .u64 (.var 317 0 18446744073709551615)
def sS18 : V := .n .u64 (.var 318 0 7)
def sS19 : V := .n .u64 (.var 319 0 18446744073709551615)
def sS20 : V := .n .u64 (.var 320 0 18446744073709551615)
def sS21 : V := .n .u64 (.var 321 0 18446744073709551615)
def sS22 : V := .n .u64 (.var 322 0 18446744073709551615)
def sS23 : V := .n .u64 (.var 323 0 18014398509481983)
def sS24 : V := .n .u64 (.var 324 0 18014398509481983)
def sS25 : V := .n .u64 (.var 325 0 18014398509481983)
def sS26 : V := .n .u64 (.var 326 0 18014398509481983)
def sS27 : V := .n .u64 (.var 327 0 18014398509481983)
def sS28 : V := .n .u64 (.var 328 0 18014398509481983)
def sS29 : V := .n .u64 (.var 329 0 18014398509481983)
def sS30 : V := .n .u64 (.var 330 0 18014398509481983)
def sN0 : V := .n .u64 (.var 400 0 18446744073709551615)
def sN1 : V := .n .u64 (.var 401 0 18446744073709551615)
def sN2 : V := .n .u64 (.var 402 0 18446744073709551615)
def sN3 : V := .n .u64 (.var 403 0 18446744073709551615)
def sN4 : V := .n .u64 (.var 404 0 18446744073709551615)
def sN5 : V := .n .u64 (.var 405 0 18446744073709551615)
def sN6 : V := .n .u64 (.var 406 0 18446744073709551615)
def sN7 : V := .n .u64 (.var 407 0 18446744073709551615)
def sN8 : V := .n .u64 (.var 408 0 18446744073709551615)
def sN9 : V := .n .u64 (.var 409 0 18446744073709551615)
def sN10 : V := .n .u64 (.var 410 0 18446744073709551615)
def sN11 : V := .n .u64 (.var 411 0 18446744073709551615)
def sN12 : V := .n .u64 (.var 412 0 18446744073709551615)
def sN13 : V := .n .u64 (.var 413 0 18446744073709551615)
def sN14 : V := .n .u64 (.var 414 0 18446744073709551615)
def sN15 : V := .n .u64 (.var 415 0 18446744073709551615)
def sN16 : V := .n .u64 (.var 416 0 18446744073709551615)
def sN17 : V := .n .u64 (.var 417 0 18446744073709551615)
def sN18 : V := .n .u64 (.var 418 0 18446744073709551615)
def sN19 : V := .n .u64 (.var 419 0 18446744073709551615)
def sN20 : V := .n .u64 (.var 420 0 18446744073709551615)
def sN21 : V := .n .u64 (.var 421 0 18446744073709551615)
def sN22 : V := .n .u64 (.var 422 0 18446744073709551615)
def sN23 : V := .n .u64 (.var 423 0 18446744073709551615)
def sN24 : V := .n .u64 (.var 424 0 18446744073709551615)
def sN25 : V := .n .u64 (.var 425 0 18446744073709551615)
def sN26 : V := .n .u64 (.var 426 0 18446744073709551615)
def sN27 : V := .n .u64 (.var 427 0 18446744073709551615)
def sN28 : V := .n .u64 (.var 428 0 18446744073709551615)
def sN29 : V := .n .u64 (.var 429 0 18446744073709551615)
def sN30 : V := .n .u64 (.var 430 0 18446744073709551615)
def wS : List (Nat × Int × Int) := [(35, 0, 65535), (32, 0, 255), (31, 0, 65535), (33, 0, 18446744073709551615), (34, 0, 18446744073709551615), (200, 0, 1), (201, 0, 1), (300, 0, 18446744073709551615), (301, 0, 18446744073709551615), (302, 0, 2730), (303, 0, 546), (304, 0, 2696), (305, 0, 46079), (306, 0, 546), (307, 0, 18446744073709551613), (308, 0, 18446744073709551614), (309, 0, 18446744073709551615), (310, 0, 18446744073709551615), (311, 0, 18446744073709551615), (312, 0, 7), (313, 0, 18446744073709551613), (314, 0, 18446744073709551614), (315, 0, 18446744073709551615), (316, 0, 18446744073709551615), (317, 0, 18446744073709551615), (318, 0, 7), (319, 0, 18446744073709551615), (320, 0, 18446744073709551615), (321, 0, 18446744073709551615), (322, 0, 18446744073709551615), (323, 0, 18014398509481983), (324, 0, 18014398509481983), (325, 0, 18014398509481983), (326, 0, 18014398509481983), (327, 0, 18014398509481983), (328, 0, 18014398509481983), (329, 0, 18014398509481983), (330, 0, 18014398509481983)]
def wO : List (Nat × Int × Int) := [(35, 0, 65535), (32, 0, 255), (31, 0, 65535), (33, 0, 18446744073709551615), (34, 0, 18446744073709551615), (201, 0, 1), (300, 0, 18446744073709551615), (301, 0, 18446744073709551615), (302, 0, 2730), (303, 0, 546), (304, 0, 2696), (305, 0, 46079), (306, 0, 546), (307, 0, 18446744073709551613), (308, 0, 18446744073709551614), (309, 0, 18446744073709551615), (310, 0, 18446744073709551615), (311, 0, 18446744073709551615), (312, 0, 7), (313, 0, 18446744073709551613), (314, 0, 18446744073709551614), (315, 0, 18446744073709551615), (316, 0, 18446744073709551615), (317, 0, 18446744073709551615), (318, 0, 7), (319, 0, 18446744073709551615), (320, 0, 18446744073709551615), (321, 0, 18446744073709551615), (322, 0, 18446744073709551615), (323, 0, 18014398509481983), (324, 0, 18014398509481983), (325, 0, 18014398509481983), (326, 0, 18014398509481983), (327, 0, 18014398509481983), (328, 0, 18014398509481983), (329, 0, 18014398509481983), (330, 0, 18014398509481983)]
def tmO : List V := [.any 0, .any 1, .n .u16 (.var 35 0 65535), .any 3, .ptr 4 0, .any 5, .any 6, .ptr 708 0, .ptr 743 0, .b (.lit 1), .b (.var 201 0 1)] ++ anys 11 84 ([])
def wN0 : Nat × Int × Int := (400, 0, 18446744073709551615)
def wN1 : Nat × Int × Int := (401, 0, 18446744073709551615)
def wN2 : Nat × Int × Int := (402, 0, 18446744073709551615)
def wN3 : Nat × Int × Int := (403, 0, 18446744073709551615)
def wN4 : Nat × Int × Int := (404, 0, 18446744073709551615)
def wN5 : Nat × Int × Int := (405, 0, 18446744073709551615)
def wN6 : Nat × Int × Int := (406, 0, 18446744073709551615)
def wN7 : Nat × Int × Int := (407, 0, 18446744073709551615)
def wN8 : Nat × Int × Int := (408, 0, 18446744073709551615)
def wN9 : Nat × Int × Int := (409, 0, 18446744073709551615)
def wN10 : Nat × Int × Int := (410, 0, 18446744073709551615)
def wN11 : Nat × Int × Int := (411, 0, 18446744073709551615)
def wN12 : Nat × Int × Int := (412, 0, 18446744073709551615)
def wN13 : Nat × Int × Int := (413, 0, 18446744073709551615)
def wN14 : Nat × Int × Int := (414, 0, 18446744073709551615)
def wN15 : Nat × Int × Int := (415, 0, 18446744073709551615)
def wN16 : Nat × Int × Int := (416, 0, 18446744073709551615)
def wN17 : Nat × Int × Int := (417, 0, 18446744073709551615)
def wN18 : Nat × Int × Int := (418, 0, 18446744073709551615)
def wN19 : Nat × Int × Int := (419, 0, 18446744073709551615)
def wN20 : Nat × Int × Int := (420, 0, 18446744073709551615)
def wN21 : Nat × Int × Int := (421, 0, 18446744073709551615)
def wN22 : Nat × Int × Int := (422, 0, 18446744073709551615)
def wN23 : Nat × Int × Int := (423, 0, 18446744073709551615)
def wN24 : Nat × Int × Int := (424, 0, 18446744073709551615)
def wN25 : Nat × Int × Int := (425, 0, 18446744073709551615)
def wN26 : Nat × Int × Int := (426, 0, 18446744073709551615)
def wN27 : Nat × Int × Int := (427, 0, 18446744073709551615)
def wN28 : Nat × Int × Int := (428, 0, 18446744073709551615)
def wN29 : Nat × Int × Int := (429, 0, 18446744073709551615)
def wN30 : Nat × Int × Int := (430, 0, 18446744073709551615)
def tmA : List V := [.any 0, .any 1, .n .u16 (.var 35 0 65535), .any 3, .ptr 4 0, .any 5, .any 6, .ptr 708 0, .ptr 743 0, .b (.var 200 0 1), .b (.var 201 0 1)] ++ anys 11 84 ([])
def hpA (l : List V) : List (Nat × Blk) := [tbk 0, tbk 1, tbk 2, (4, .cells [.n .u16 (.var 31 0 65535), .n .u8 (.var 32 0 255), .n .u64 (.var 33 0 18446744073709551615), .n .u64 (.var 34 0 18446744073709551615)] 28), (708, .cells [sS0, sS1, sS2, sS3, sS4, sS5, sS6, sS7, sS8, sS9, sS10, sS11, sS12, sS13, sS14, sS15, sS16, sS17, sS18, sS19, sS20, sS21, sS22, sS23, sS24, sS25, sS26, sS27, sS28, sS29, sS30] 25), (743, .cells l 25)]
def tmplA0 : Sx.Place := { stk := [.co 254, .co 255], tm := tmA, hp := hpA [sS0, sS1, sN2, sN3, sS4, sN5, sN6, sN7, sN8, sN9, sN10, sN11, sN12, sN13, sN14, sN15, sN16, sN17, sN18, sN19, sN20, sN21, sN22, sN23, sN24, sN25, sN26, sN27, sN28, sN29, sN30], nxt := 745, pc := [], vars := wS ++ [wN2, wN3, wN5, wN6, wN7, wN8, wN9, wN10, wN11, wN12, wN13, wN14, wN15, wN16, wN17, wN18, wN19, wN20, wN21, wN22, wN23, wN24, wN25, wN26, wN27, wN28, wN29, wN30], meas := (.lit 0) }
def plG0_0 : Sx.Place := { tmplA0 with pc := [((.eq (.var 35 0 65535) (.lit 256)), true)] }
def tmplA1 : Sx.Place := { stk := [.co 254, .co 255], tm := tmO, hp := hpA [sS0, sN1, sN2, sN3, sS4, sN5, sN6, sN7, sN8, sN9, sN10, sN11, sN12, sN13, sN14, sN15, sN16, sN17, sN18, sN19, sN20, sN21, sN22, sN23, sN24, sN25, sN26, sN27, sN28, sN29, sN30], nxt := 745, pc := [], vars := wO ++ [wN1, wN2, wN3, wN5, wN6, wN7, wN8, wN9, wN10, wN11, wN12, wN13, wN14, wN15, wN16, wN17, wN18, wN19, wN20, wN21, wN22, wN23, wN24, wN25, wN26, wN27, wN28, wN29, wN30], meas := (.lit 0) }
def plG0_1 : Sx.Place := { tmplA1 with pc := [((.eq (.var 35 0 65535) (.lit 256)), true), ((.var 201 0 1), true)] }
def tmplA2 : Sx.Place := { stk := [.co 254, .co 255], tm := tmA, hp := hpA [sS0, sN1, sS2, sN3, sS4, sN5, sS6, sN7, sN8, sN9, sN10, sN11, sN12, sN13, sN14, sN15, sN16, sN17, sN18, sN19, sN20, sN21, sN22, sN23, sN24, sN25, sN26, sN27, sN28, sN29, sN30], nxt := 745, pc := [], vars := wS ++ [wN1, wN3, wN5, wN7, wN8, wN9, wN10, wN11, wN12, wN13, wN14, wN15, wN16, wN17, wN18, wN19, wN20, wN21, wN22, wN23, wN24, wN25, wN26, wN27, wN28, wN29, wN30], meas := (.lit 0) }
def plG0_2 : Sx.Place := { tmplA2 with pc := [((.eq (.var 35 0 65535) (.lit 256)), false), ((.eq (.var 35 0 65535) (.lit 260)), true)] }
def plG0_3 : Sx.Place := { tmplA1 with pc := [((.eq (.var 35 0 65535) (.lit 256)), false), ((.eq (.var 35 0 65535) (.lit 260)), true), ((.var 201 0 1), true)] }
def tmplA3 : Sx.Place := { stk := [.co 254, .co 255], tm := tmA, hp := hpA [sS0, sN1, sN2, sN3, sS4, sN5, sN6, sN7, sN8, sN9, sN10, sN11, sN12, sS13, sN14, sN15, sN16, sN17, sN18, sN19, sN20, sN21, sN22, sN23, sN24, sN25, sN26, sN27, sN28, sN29, sN30], nxt := 745, pc := [], vars := wS ++ [wN1, wN2, wN3, wN5, wN6, wN7, wN8, wN9, wN10, wN11, wN12, wN14, wN15, wN16, wN17, wN18, wN19, wN20, wN21, wN22, wN23, wN24, wN25, wN26, wN27, wN28, wN29, wN30], meas := (.lit 0) }
def plG0_4 : Sx.Place := { tmplA3 with pc := [((.eq (.var 35 0 65535) (.lit 256)), false), ((.eq (.var 35 0 65535) (.lit 260)), false), ((.eq (.var 35 0 65535) (.lit 261)), true)] }
def plG0_5 : Sx.Place := { tmplA1 with pc := [((.eq (.var 35 0 65535) (.lit 256)), false), ((.eq (.var 35 0 65535) (.lit 260)), false), ((.eq (.var 35 0 65535) (.lit 261)), true), ((.var 201 0 1), true)] }
def tmplA4 : Sx.Place := { stk := [.co 254, .co 255], tm := tmA, hp := hpA [sS0, sN1, sN2, sN3, sS4, sN5, sN6, sN7, sN8, sN9, sN10, sN11, sN12, sN13, sN14, sN15, sN16, sN17, sS18, sN19, sN20, sN21, sN22, sN23, sN24, sN25, sN26, sN27, sN28, sN29, sN30], nxt := 745, pc := [], vars := wS ++ [wN1, wN2, wN3, wN5, wN6, wN7, wN8, wN9, wN10, wN11, wN12, wN13, wN14, wN15, wN16, wN17, wN19, wN20, wN21, wN22, wN23, wN24, wN25, wN26, wN27, wN28, wN29, wN30], meas := (.lit 0) }
def plG0_6 : Sx.Place := { tmplA4 with pc := [((.eq (.var 35 0 65535) (.lit 256)), false), ((.eq (.var 35 0 65535) (.lit 260)), false), ((.eq (.var 35 0 65535) (.lit 261)), false), ((.eq (.var 35 0 65535) (.lit 262)), true)] }
def plG0_7 : Sx.Place := { tmplA1 with pc := [((.eq (.var 35 0 65535) (.lit 256)), false), ((.eq (.var 35 0 65535) (.lit 260)), false), ((.eq (.var 35 0 65535) (.lit 261)), false), ((.eq (.var 35 0 65535) (.lit 262)), true), ((.var 201 0 1), true)] }
def tmplA5 : Sx.Place := { stk := [.co 254, .co 255], tm := tmA, hp := hpA [sS0, sN1, sN2, sN3, sS4, sN5, sN6, sN7, sN8, sN9, sN10, sN11, sN12, sN13, sN14, sN15, sN16, sN17, sN18, sN19, sN20, sN21, sN22, sN23, sN24, sN25, sN26, sN27, sN28, sN29, sN30], nxt := 745, pc := [], vars := wS ++ [wN1, wN2, wN3, wN5, wN6, wN7, wN8, wN9, wN10, wN11, wN12, wN13, wN14, wN15, wN16, wN17, wN18, wN19, wN20, wN21, wN22, wN23, wN24, wN25, wN26, wN27, wN28, wN29, wN30], meas := (.lit 0) }
def plG0_8 : Sx.Place := { tmplA5 with pc := [((.lt (.var 35 0 65535) (.lit 320)), true), ((.eq (.var 35 0 65535) (.lit 256)), false), ((.eq (.var 35 0 65535) (.lit 260)), false), ((.eq (.var 35 0 65535) (.lit 261)), false), ((.eq (.var 35 0 65535) (.lit 262)), false)] }
def placesG0 : List Sx.Place := [plG0_0, plG0_1, plG0_2, plG0_3, plG0_4, plG0_5, plG0_6, plG0_7, plG0_8]
noncomputable abbrev lawStart0 (pc : Pc) : Bool := startYes Tryd.prog (tabGlob tabs) lawEv 1645504557321206042154969182557350504982735865633579863348346156 lawBody lawFn 3 100000 placesG0 excE (psV lawPs 0) (stTab tabs pc)
def tmplA6 : Sx.Place := { stk := [.co 254, .co 255], tm := tmA, hp := hpA [sS0, sN1, sN2, sN3, sS4, sN5, sN6, sN7, sN8, sN9, sN10, sN11, sN12, sN13, sN14, sN15, sN16, sS17, sN18, sN19, sN20, sN21, sN22, sN23, sN24, sN25, sN26, sN27, sN28, sN29, sN30], nxt := 745, pc := [], vars := wS ++ [wN1, wN2, wN3, wN5, wN6, wN7, wN8, wN9, wN10, wN11, wN12, wN13, wN14, wN15, wN16, wN18, wN19, wN20, wN21, wN22, wN23, wN24, wN25, wN26, wN27, wN28, wN29, wN30], meas := (.lit 0) }
def plG1_0 : Sx.Place := { tmplA6 with pc := [((.eq (.var 35 0 65535) (.lit 320)), true)] }
def plG1_1 : Sx.Place := { tmplA1 with pc := [((.eq (.var 35 0 65535) (.lit 320)), true), ((.var 201 0 1), true)] }
def tmplA7 : Sx.Place := { stk := [.co 254, .co 255], tm := tmA, hp := hpA [sS0, sN1, sN2, sN3, sS4, sN5, sN6, sN7, sN8, sN9, sN10, sN11, sN12, sN13, sS14, sN15, sN16, sN17, sN18, sN19, sN20, sN21, sN22, sN23, sN24, sN25, sN26, sN27, sN28, sN29, sN30], nxt := 745, pc := [], vars := wS ++ [wN1, wN2, wN3, wN5, wN6, wN7, wN8, wN9, wN10, wN11, wN12, wN13, wN15, wN16, wN17, wN18, wN19, wN20, wN21, wN22, wN23, wN24, wN25, wN26, wN27, wN28, wN29, wN30], meas := (.lit 0) }
def plG1_2 : Sx.Place := { tmplA7 with pc := [((.eq (.var 35 0 65535) (.lit 320)), false), ((.eq (.var 35 0 65535) (.lit 321)), true)] }
def plG1_3 : Sx.Place := { tmplA1 with pc := [((.eq (.var 35 0 65535) (.lit 320)), false), ((.eq (.var 35 0 65535) (.lit 321)), true), ((.var 201 0 1), true)] }
def tmplA8 : Sx.Place := { stk := [.co 254, .co 255], tm := tmA, hp := hpA [sS0, sN1, sN2, sN3, sS4, sN5, sN6, sN7, sN8, sN9, sN10, sN11, sN12, sN13, sN14, sS15, sN16, sN17, sN18, sN19, sN20, sN21, sN22, sN23, sN24, sN25, sN26, sN27, sN28, sN29, sN30], nxt := 745, pc := [], vars := wS ++ [wN1, wN2, wN3, wN5, wN6, wN7, wN8, wN9, wN10, wN11, wN12, wN13, wN14, wN16, wN17, wN18, wN19, wN20, wN21, wN22, wN23, wN24, wN25, wN26, wN27, wN28, wN29, wN30], meas := (.lit 0) }
def plG1_4 : Sx.Place := { tmplA8 with pc := [((.eq (.var 35 0 65535) (.lit 320)), false), ((.eq (.var 35 0 65535) (.lit 321)), false), ((.eq (.var 35 0 65535) (.lit 322)), true)] }
def plG1_5 : Sx.Place := { tmplA1 with pc := [((.eq (.var 35 0 65535) (.lit 320)), false), ((.eq (.var 35 0 65535) (.lit 321)), false), ((.eq (.var 35 0 65535) (.lit 322)), true), ((.var 201 0 1), true)] }
def tmplA9 : Sx.Place := { stk := [.co 254, .co 255], tm := tmA, hp := hpA [sS0, sN1, sN2, sN3, sS4, sN5, sN6, sN7, sN8, sN9, sN10, sN11, sN12, sN13, sN14, sN15, sS16, sN17, sN18, sN19, sN20, sN21, sN22, sN23, sN24, sN25, sN26, sN27, sN28, sN29, sN30], nxt := 745, pc := [], vars := wS ++ [wN1, wN2, wN3, wN5, wN6, wN7, wN8, wN9, wN10, wN11, wN12, wN13, wN14, wN15, wN17, wN18, wN19, wN20, wN21, wN22, wN23, wN24, wN25, wN26, wN27, wN28, wN29, wN30], meas := (.lit 0) }
def plG1_6 : Sx.Place := { tmplA9 with pc := [((.eq (.var 35 0 65535) (.lit 320)), false), ((.eq (.var 35 0 65535) (.lit 321)), false), ((.eq (.var 35 0 65535) (.lit 322)), false), ((.eq (.var 35 0 65535) (.lit 323)), true)] }
def plG1_7 : Sx.Place := { tmplA1 with pc := [((.eq (.var 35 0 65535) (.lit 320)), false), ((.eq (.var 35 0 65535) (.lit 321)), false), ((.eq (.var 35 0 65535) (.lit 322)), false), ((.eq (.var 35 0 65535) (.lit 323)), true), ((.var 201 0 1), true)] }
def tmplA10 : Sx.Place := { stk := [.co 254, .co 255], tm := tmA, hp := hpA [sS0, sN1, sN2, sS3, sS4, sN5, sS6, sN7, sN8, sN9, sN10, sN11, sN12, sN13, sN14, sN15, sN16, sN17, sN18, sN19, sN20, sN21, sN22, sN23, sN24, sN25, sN26, sN27, sN28, sN29, sN30], nxt := 745, pc := [], vars := wS ++ [wN1, wN2, wN5, wN7, wN8, wN9, wN10, wN11, wN12, wN13, wN14, wN15, wN16, wN17, wN18, wN19, wN20, wN21, wN22, wN23, wN24, wN25, wN26, wN27, wN28, wN29, wN30], meas := (.lit 0) }
def plG1_8 : Sx.Place := { tmplA10 with pc := [((.eq (.var 35 0 65535) (.lit 320)), false), ((.eq (.var 35 0 65535) (.lit 321)), false), ((.eq (.var 35 0 65535) (.lit 322)), false), ((.eq (.var 35 0 65535) (.lit 323)), false), ((.eq (.var 35 0 65535) (.lit 324)), true)] }
def plG1_9 : Sx.Place := { tmplA1 with pc := [((.eq (.var 35 0 65535) (.lit 320)), false), ((.eq (.var 35 0 65535) (.lit 321)), false), ((.eq (.var 35 0 65535) (.lit 322)), false), ((.eq (.var 35 0 65535) (.lit 323)), false), ((.eq (.var 35 0 65535) (.lit 324)), true), ((.var 201 0 1), true)] }
def tmplA11 : Sx.Place := { stk := [.co 254, .co 255], tm := tmA, hp := hpA [sS0, sN1, sN2, sN3, sS4, sN5, sN6, sN7, sN8, sN9, sN10, sN11, sN12, sN13, sN14, sN15, sN16, sN17, sN18, sS19, sN20, sN21, sN22, sN23, sN24, sN25, sN26, sN27, sN28, sN29, sN30], nxt := 745, pc := [], vars := wS ++ [wN1, wN2, wN3, wN5, wN6, wN7, wN8, wN9, wN10, wN11, wN12, wN13, wN14, wN15, wN16, wN17, wN18, wN20, wN21, wN22, wN23, wN24, wN25, wN26, wN27, wN28, wN29, wN30], meas := (.lit 0) }
def plG1_10 : Sx.Place := { tmplA11 with pc := [((.eq (.var 35 0 65535) (.lit 320)), false), ((.eq (.var 35 0 65535) (.lit 321)), false), ((.eq (.var 35 0 65535) (.lit 322)), false), ((.eq (.var 35 0 65535) (.lit 323)), false), ((.eq (.var 35 0 65535) (.lit 324)), false), ((.eq (.var 35 0 65535) (.lit 384)), true)] }
def plG1_11 : Sx.Place := { tmplA1 with pc := [((.eq (.var 35 0 65535) (.lit 320)), false), ((.eq (.var 35 0 65535) (.lit 321)), false), ((.eq (.var 35 0 65535) (.lit 322)), false), ((.eq (.var 35 0 65535) (.lit 323)), false), ((.eq (.var 35 0 65535) (.lit 324)), false), ((.eq (.var 35 0 65535) (.lit 384)), true), ((.var 201 0 1), true)] }
def plG1_12 : Sx.Place := { tmplA5 with pc := [((.lt (.var 35 0 65535) (.lit 320)), false), ((.lt (.var 35 0 65535) (.lit 768)), true), ((.eq (.var 35 0 65535) (.lit 320)), false), ((.eq (.var 35 0 65535) (.lit 321)), false), ((.eq (.var 35 0 65535) (.lit 322)), false), ((.eq (.var 35 0 65535) (.lit 323)), false), ((.eq (.var 35 0 65535) (.lit 324)), false), ((.eq (.var 35 0 65535) (.lit 384)), false)] }
def placesG1 : List Sx.Place := [plG1_0, plG1_1, plG1_2, plG1_3, plG1_4, plG1_5, plG1_6, plG1_7, plG1_8, plG1_9, plG1_10, plG1_11, plG1_12]
noncomputable abbrev lawStart1 (pc : Pc) : Bool := startYes Tryd.prog (tabGlob tabs) lawEv 1645504557321206042154969182557350504982735865633579863348346156 lawBody lawFn 3 100000 placesG1 excE (psV lawPs 0) (stTab tabs pc)
def plG2_0 : Sx.Place := { tmplA0 with pc := [((.eq (.var 35 0 65535) (.lit 768)), true)] }
def plG2_1 : Sx.Place := { tmplA1 with pc := [((.eq (.var 35 0 65535) (.lit 768)), true), ((.var 201 0 1), true)] }
def plG2_2 : Sx.Place := { tmplA5 with pc := [((.eq (.var 35 0 65535) (.lit 768)), false), ((.eq (.var 35 0 65535) (.lit 769)), true)] }
def tmplA12 : Sx.Place := { stk := [.co 254, .co 255], tm := tmA, hp := hpA [sS0, sN1, sN2, sN3, sS4, sS5, sN6, sN7, sN8, sN9, sN10, sN11, sN12, sN13, sN14, sN15, sN16, sN17, sN18, sN19, sN20, sN21, sN22, sN23, sN24, sN25, sN26, sN27, sN28, sN29, sN30], nxt := 745, pc := [], vars := wS ++ [wN1, wN2, wN3, wN6, wN7, wN8, wN9, wN10, wN11, wN12, wN13, wN14, wN15, wN16, wN17, wN18, wN19, wN20, wN21, wN22, wN23, wN24, wN25, wN26, wN27, wN28, wN29, wN30], meas := (.lit 0) }
def plG2_3 : Sx.Place := { tmplA12 with pc := [((.eq (.var 35 0 65535) (.lit 768)), false), ((.eq (.var 35 0 65535) (.lit 769)), false), ((.eq (.var 35 0 65535) (.lit 770)), true)] }
def plG2_4 : Sx.Place := { tmplA1 with pc := [((.eq (.var 35 0 65535) (.lit 768)), false), ((.eq (.var 35 0 65535) (.lit 769)), false), ((.eq (.var 35 0 65535) (.lit 770)), true), ((.var 201 0 1), true)] }
def tmplA13 : Sx.Place := { stk := [.co 254, .co 255], tm := tmA, hp := hpA [sS0, sN1, sN2, sN3, sS4, sN5, sS6, sN7, sN8, sN9, sN10, sN11, sN12, sN13, sN14, sN15, sN16, sN17, sN18, sN19, sN20, sN21, sN22, sN23, sN24, sN25, sN26, sN27, sN28, sN29, sN30], nxt := 745, pc := [], vars := wS ++ [wN1, wN2, wN3, wN5, wN7, wN8, wN9, wN10, wN11, wN12, wN13, wN14, wN15, wN16, wN17, wN18, wN19, wN20, wN21, wN22, wN23, wN24, wN25, wN26, wN27, wN28, wN29, wN30], meas := (.lit 0) }
def plG2_5 : Sx.Place := { tmplA13 with pc := [((.eq (.var 35 0 65535) (.lit 768)), false), ((.eq (.var 35 0 65535) (.lit 769)), false), ((.eq (.var 35 0 65535) (.lit 770)), false), ((.eq (.var 35 0 65535) (.lit 771)), true)] }
def plG2_6 : Sx.Place := { tmplA1 with pc := [((.eq (.var 35 0 65535) (.lit 768)), false), ((.eq (.var 35 0 65535) (.lit 769)), false), ((.eq (.var 35 0 65535) (.lit 770)), false), ((.eq (.var 35 0 65535) (.lit 771)), true), ((.var 201 0 1), true)] }
def tmplA14 : Sx.Place := { stk := [.co 254, .co 255], tm := tmA, hp := hpA [sS0, sN1, sS2, sN3, sS4, sN5, sN6, sN7, sN8, sN9, sN10, sN11, sN12, sN13, sN14, sN15, sN16, sN17, sN18, sN19, sN20, sN21, sN22, sN23, sN24, sN25, sN26, sN27, sN28, sN29, sN30], nxt := 745, pc := [], vars := wS ++ [wN1, wN3, wN5, wN6, wN7, wN8, wN9, wN10, wN11, wN12, wN13, wN14, wN15, wN16, wN17, wN18, wN19, wN20, wN21, wN22, wN23, wN24, wN25, wN26, wN27, wN28, wN29, wN30], meas := (.lit 0) }
def plG2_7 : Sx.Place := { tmplA14 with pc := [((.eq (.var 35 0 65535) (.lit 768)), false), ((.eq (.var 35 0 65535) (.lit 769)), false), ((.eq (.var 35 0 65535) (.lit 770)), false), ((.eq (.var 35 0 65535) (.lit 771)), false), ((.eq (.var 35 0 65535) (.lit 772)), true)] }
def plG2_8 : Sx.Place := { tmplA1 with pc := [((.eq (.var 35 0 65535) (.lit 768)), false), ((.eq (.var 35 0 65535) (.lit 769)), false), ((.eq (.var 35 0 65535) (.lit 770)), false), ((.eq (.var 35 0 65535) (.lit 771)), false), ((.eq (.var 35 0 65535) (.lit 772)), true), ((.var 201 0 1), true)] }
def tmplA15 : Sx.Place := { stk := [.co 254, .co 255], tm := tmA, hp := hpA [sS0, sN1, sN2, sN3, sS4, sN5, sN6, sS7, sN8, sN9, sN10, sN11, sN12, sN13, sN14, sN15, sN16, sN17, sN18, sN19, sN20, sN21, sN22, sN23, sN24, sN25, sN26, sN27, sN28, sN29, sN30], nxt := 745, pc := [], vars := wS ++ [wN1, wN2, wN3, wN5, wN6, wN8, wN9, wN10, wN11, wN12, wN13, wN14, wN15, wN16, wN17, wN18, wN19, wN20, wN21, wN22, wN23, wN24, wN25, wN26, wN27, wN28, wN29, wN30], meas := (.lit 0) }
def plG2_9 : Sx.Place := { tmplA15 with pc := [((.eq (.var 35 0 65535) (.lit 768)), false), ((.eq (.var 35 0 65535) (.lit 769)), false), ((.eq (.var 35 0 65535) (.lit 770)), false), ((.eq (.var 35 0 65535) (.lit 771)), false), ((.eq (.var 35 0 65535) (.lit 772)), false), ((.eq (.var 35 0 65535) (.lit 773)), true)] }
def plG2_10 : Sx.Place := { tmplA1 with pc := [((.eq (.var 35 0 65535) (.lit 768)), false), ((.eq (.var 35 0 65535) (.lit 769)), false), ((.eq (.var 35 0 65535) (.lit 770)), false), ((.eq (.var 35 0 65535) (.lit 771)), false), ((.eq (.var 35 0 65535) (.lit 772)), false), ((.eq (.var 35 0 65535) (.lit 773)), true), ((.var 201 0 1), true)] }
def tmplA16 : Sx.Place := { stk := [.co 254, .co 255], tm := tmA, hp := hpA [sS0, sN1, sN2, sN3, sS4, sN5, sN6, sN7, sN8, sN9, sN10, sN11, sS12, sN13, sN14, sN15, sN16, sN17, sN18, sN19, sN20, sN21, sN22, sN23, sN24, sN25, sN26, sN27, sN28, sN29, sN30], nxt := 745, pc := [], vars := wS ++ [wN1, wN2, wN3, wN5, wN6, wN7, wN8, wN9, wN10, wN11, wN13, wN14, wN15, wN16, wN17, wN18, wN19, wN20, wN21, wN22, wN23, wN24, wN25, wN26, wN27, wN28, wN29, wN30], meas := (.lit 0) }
def plG2_11 : Sx.Place := { tmplA16 with pc := [((.eq (.var 35 0 65535) (.lit 768)), false), ((.eq (.var 35 0 65535) (.lit 769)), false), ((.eq (.var 35 0 65535) (.lit 770)), false), ((.eq (.var 35 0 65535) (.lit 771)), false), ((.eq (.var 35 0 65535) (.lit 772)), false), ((.eq (.var 35 0 65535) (.lit 773)), false), ((.eq (.var 35 0 65535) (.lit 774)), true)] }
def plG2_12 : Sx.Place := { tmplA1 with pc := [((.eq (.var 35 0 65535) (.lit 768)), false), ((.eq (.var 35 0 65535) (.lit 769)), false), ((.eq (.var 35 0 65535) (.lit 770)), false), ((.eq (.var 35 0 65535) (.lit 771)), false), ((.eq (.var 35 0 65535) (.lit 772)), false), ((.eq (.var 35 0 65535) (.lit 773)), false), ((.eq (.var 35 0 65535) (.lit 774)), true), ((.var 201 0 1), true)] }
def plG2_13 : Sx.Place := { tmplA5 with pc := [((.lt (.var 35 0 65535) (.lit 768)), false), ((.lt (.var 35 0 65535) (.lit 832)), true), ((.eq (.var 35 0 65535) (.lit 768)), false), ((.eq (.var 35 0 65535) (.lit 769)), false), ((.eq (.var 35 0 65535) (.lit 770)), false), ((.eq (.var 35 0 65535) (.lit 771)), false), ((.eq (.var 35 0 65535) (.lit 772)), false), ((.eq (.var 35 0 65535) (.lit 773)), false), ((.eq (.var 35 0 65535) (.lit 774)), false)] }
def placesG2 : List Sx.Place := [plG2_0, plG2_1, plG2_2, plG2_3, plG2_4, plG2_5, plG2_6, plG2_7, plG2_8, plG2_9, plG2_10, plG2_11, plG2_12, plG2_13]
noncomputable abbrev lawStart2 (pc : Pc) : Bool := startYes Tryd.prog (tabGlob tabs) lawEv 1645504557321206042154969182557350504982735865633579863348346156 lawBody lawFn 3 100000 placesG2 excE (psV lawPs 0) (stTab tabs pc)
def tmplA17 : Sx.Place := { stk := [.co 254, .co 255], tm := tmA, hp := hpA [sS0, sN1, sN2, sN3, sS4, sN5, sN6, sN7, sN8, sN9, sN10, sS11, sN12, sN13, sN14, sN15, sN16, sN17, sN18, sN19, sN20, sN21, sN22, sN23, sN24, sN25, sN26, sN27, sN28, sN29, sN30], nxt := 745, pc := [], vars := wS ++ [wN1, wN2, wN3, wN5, wN6, wN7, wN8, wN9, wN10, wN12, wN13, wN14, wN15, wN16, wN17, wN18, wN19, wN20, wN21, wN22, wN23, wN24, wN25, wN26, wN27, wN28, wN29, wN30], meas := (.lit 0) }
def plG3_0 : Sx.Place := { tmplA17 with pc := [((.eq (.var 35 0 65535) (.lit 832)), true)] }
def plG3_1 : Sx.Place := { tmplA1 with pc := [((.eq (.var 35 0 65535) (.lit 832)), true), ((.var 201 0 1), true)] }
def tmplA18 : Sx.Place := { stk := [.co 254, .co 255], tm := tmA, hp := hpA [sS0, sN1, sN2, sN3, sS4, sN5, sN6, sN7, sS8, sN9, sN10, sN11, sN12, sN13, sN14, sN15, sN16, sN17, sN18, sN19, sN20, sN21, sN22, sN23, sN24, sN25, sN26, sN27, sN28, sN29, sN30], nxt := 745, pc := [], vars := wS ++ [wN1, wN2, wN3, wN5, wN6, wN7, wN9, wN10, wN11, wN12, wN13, wN14, wN15, wN16, wN17, wN18, wN19, wN20, wN21, wN22, wN23, wN24, wN25, wN26, wN27, wN28, wN29, wN30], meas := (.lit 0) }
def plG3_2 : Sx.Place := { tmplA18 with pc := [((.eq (.var 35 0 65535) (.lit 832)), false), ((.eq (.var 35 0 65535) (.lit 833)), true)] }
def plG3_3 : Sx.Place := { tmplA1 with pc := [((.eq (.var 35 0 65535) (.lit 832)), false), ((.eq (.var 35 0 65535) (.lit 833)), true), ((.var 201 0 1), true)] }
def tmplA19 : Sx.Place := { stk := [.co 254, .co 255], tm := tmA, hp := hpA [sS0, sN1, sN2, sN3, sS4, sN5, sN6, sN7, sN8, sS9, sN10, sN11, sN12, sN13, sN14, sN15, sN16, sN17, sN18, sN19, sN20, sN21, sN22, sN23, sN24, sN25, sN26, sN27, sN28, sN29, sN30], nxt := 745, pc := [], vars := wS ++ [wN1, wN2, wN3, wN5, wN6, wN7, wN8, wN10, wN11, wN12, wN13, wN14, wN15, wN16, wN17, wN18, wN19, wN20, wN21, wN22, wN23, wN24, wN25, wN26, wN27, wN28, wN29, wN30], meas := (.lit 0) }
def plG3_4 : Sx.Place := { tmplA19 with pc := [((.eq (.var 35 0 65535) (.lit 832)), false), ((.eq (.var 35 0 65535) (.lit 833)), false), ((.eq (.var 35 0 65535) (.lit 834)), true)] }
def plG3_5 : Sx.Place := { tmplA1 with pc := [((.eq (.var 35 0 65535) (.lit 832)), false), ((.eq (.var 35 0 65535) (.lit 833)), false), ((.eq (.var 35 0 65535) (.lit 834)), true), ((.var 201 0 1), true)] }
def tmplA20 : Sx.Place := { stk := [.co 254, .co 255], tm := tmA, hp := hpA [sS0, sN1, sN2, sN3, sS4, sN5, sN6, sN7, sN8, sN9, sS10, sN11, sN12, sN13, sN14, sN15, sN16, sN17, sN18, sN19, sN20, sN21, sN22, sN23, sN24, sN25, sN26, sN27, sN28, sN29, sN30], nxt := 745, pc := [], vars := wS ++ [wN1, wN2, wN3, wN5, wN6, wN7, wN8, wN9, wN11, wN12, wN13, wN14, wN15, wN16, wN17, wN18, wN19, wN20, wN21, wN22, wN23, wN24, wN25, wN26, wN27, wN28, wN29, wN30], meas := (.lit 0) }
def plG3_6 : Sx.Place := { tmplA20 with pc := [((.eq (.var 35 0 65535) (.lit 832)), false), ((.eq (.var 35 0 65535) (.lit 833)), false), ((.eq (.var 35 0 65535) (.lit 834)), false), ((.eq (.var 35 0 65535) (.lit 835)), true)] }
def plG3_7 : Sx.Place := { tmplA1 with pc := [((.eq (.var 35 0 65535) (.lit 832)), false), ((.eq (.var 35 0 65535) (.lit 833)), false), ((.eq (.var 35 0 65535) (.lit 834)), false), ((.eq (.var 35 0 65535) (.lit 835)), true), ((.var 201 0 1), true)] }
def tmplA21 : Sx.Place := { stk := [.co 254, .co 255], tm := tmA, hp := hpA [sS0, sN1, sN2, sS3, sS4, sN5, sN6, sN7, sN8, sN9, sN10, sN11, sN12, sN13, sN14, sN15, sN16, sN17, sN18, sN19, sN20, sN21, sN22, sN23, sN24, sN25, sN26, sN27, sN28, sN29, sN30], nxt := 745, pc := [], vars := wS ++ [wN1, wN2, wN5, wN6, wN7, wN8, wN9, wN10, wN11, wN12, wN13, wN14, wN15, wN16, wN17, wN18, wN19, wN20, wN21, wN22, wN23, wN24, wN25, wN26, wN27, wN28, wN29, wN30], meas := (.lit 0) }
def plG3_8 : Sx.Place := { tmplA21 with pc := [((.eq (.var 35 0 65535) (.lit 832)), false), ((.eq (.var 35 0 65535) (.lit 833)), false), ((.eq (.var 35 0 65535) (.lit 834)), false), ((.eq (.var 35 0 65535) (.lit 835)), false), ((.eq (.var 35 0 65535) (.lit 836)), true)] }
def plG3_9 : Sx.Place := { tmplA1 with pc := [((.eq (.var 35 0 65535) (.lit 832)), false), ((.eq (.var 35 0 65535) (.lit 833)), false), ((.eq (.var 35 0 65535) (.lit 834)), false), ((.eq (.var 35 0 65535) (.lit 835)), false), ((.eq (.var 35 0 65535) (.lit 836)), true), ((.var 201 0 1), true)] }
def tmplA22 : Sx.Place := { stk := [.co 254, .co 255], tm := tmA, hp := hpA [sS0, sN1, sN2, sN3, sS4, sN5, sN6, sN7, sN8, sN9, sN10, sN11, sN12, sN13, sN14, sN15, sN16, sN17, sN18, sN19, sN20, sN21, sS22, sN23, sN24, sN25, sN26, sN27, sN28, sN29, sN30], nxt := 745, pc := [], vars := wS ++ [wN1, wN2, wN3, wN5, wN6, wN7, wN8, wN9, wN10, wN11, wN12, wN13, wN14, wN15, wN16, wN17, wN18, wN19, wN20, wN21, wN23, wN24, wN25, wN26, wN27, wN28, wN29, wN30], meas := (.lit 0) }
def plG3_10 : Sx.Place := { tmplA22 with pc := [((.eq (.var 35 0 65535) (.lit 832)), false), ((.eq (.var 35 0 65535) (.lit 833)), false), ((.eq (.var 35 0 65535) (.lit 834)), false), ((.eq (.var 35 0 65535) (.lit 835)), false), ((.eq (.var 35 0 65535) (.lit 836)), false), ((.eq (.var 35 0 65535) (.lit 928)), true)] }
def plG3_11 : Sx.Place := { tmplA1 with pc := [((.eq (.var 35 0 65535) (.lit 832)), false), ((.eq (.var 35 0 65535) (.lit 833)), false), ((.eq (.var 35 0 65535) (.lit 834)), false), ((.eq (.var 35 0 65535) (.lit 835)), false), ((.eq (.var 35 0 65535) (.lit 836)), false), ((.eq (.var 35 0 65535) (.lit 928)), true), ((.var 201 0 1), true)] }
def plG3_12 : Sx.Place := { tmplA5 with pc := [((.lt (.var 35 0 65535) (.lit 832)), false), ((.lt (.var 35 0 65535) (.lit 944)), true), ((.eq (.var 35 0 65535) (.lit 832)), false), ((.eq (.var 35 0 65535) (.lit 833)), false), ((.eq (.var 35 0 65535) (.lit 834)), false), ((.eq (.var 35 0 65535) (.lit 835)), false), ((.eq (.var 35 0 65535) (.lit 836)), false), ((.eq (.var 35 0 65535) (.lit 928)), false)] }
def placesG3 : List Sx.Place := [plG3_0, plG3_1, plG3_2, plG3_3, plG3_4, plG3_5, plG3_6, plG3_7, plG3_8, plG3_9, plG3_10, plG3_11, plG3_12]
noncomputable abbrev lawStart3 (pc : Pc) : Bool := startYes Tryd.prog (tabGlob tabs) lawEv 1645504557321206042154969182557350504982735865633579863348346156 lawBody lawFn 3 100000 placesG3 excE (psV lawPs 0) (stTab tabs pc)
def tmplA23 : Sx.Place := { stk := [.co 254, .co 255], tm := tmA, hp := hpA [sS0, sN1, sN2, sN3, sS4, sN5, sN6, sN7, sN8, sN9, sN10, sN11, sN12, sN13, sN14, sN15, sN16, sN17, sN18, sN19, sN20, sN21, sN22, sS23, sN24, sN25, sN26, sN27, sN28, sN29, sN30], nxt := 745, pc := [], vars := wS ++ [wN1, wN2, wN3, wN5, wN6, wN7, wN8, wN9, wN10, wN11, wN12, wN13, wN14, wN15, wN16, wN17, wN18, wN19, wN20, wN21, wN22, wN24, wN25, wN26, wN27, wN28, wN29, wN30], meas := (.lit 0) }
def plG4_0 : Sx.Place := { tmplA23 with pc := [((.eq (.var 35 0 65535) (.lit 944)), true)] }
def plG4_1 : Sx.Place := { tmplA1 with pc := [((.eq (.var 35 0 65535) (.lit 944)), true), ((.var 201 0 1), true)] }
def tmplA24 : Sx.Place := { stk := [.co 254, .co 255], tm := tmA, hp := hpA [sS0, sN1, sN2, sN3, sS4, sN5, sN6, sN7, sN8, sN9, sN10, sN11, sN12, sN13, sN14, sN15, sN16, sN17, sN18, sN19, sN20, sN21, sN22, sN23, sS24, sN25, sN26, sN27, sN28, sN29, sN30], nxt := 745, pc := [], vars := wS ++ [wN1, wN2, wN3, wN5, wN6, wN7, wN8, wN9, wN10, wN11, wN12, wN13, wN14, wN15, wN16, wN17, wN18, wN19, wN20, wN21, wN22, wN23, wN25, wN26, wN27, wN28, wN29, wN30], meas := (.lit 0) }
def plG4_2 : Sx.Place := { tmplA24 with pc := [((.eq (.var 35 0 65535) (.lit 944)), false), ((.eq (.var 35 0 65535) (.lit 945)), true)] }
def plG4_3 : Sx.Place := { tmplA1 with pc := [((.eq (.var 35 0 65535) (.lit 944)), false), ((.eq (.var 35 0 65535) (.lit 945)), true), ((.var 201 0 1), true)] }
def tmplA25 : Sx.Place := { stk := [.co 254, .co 255], tm := tmA, hp := hpA [sS0, sN1, sN2, sN3, sS4, sN5, sN6, sN7, sN8, sN9, sN10, sN11, sN12, sN13, sN14, sN15, sN16, sN17, sN18, sN19, sN20, sN21, sN22, sN23, sN24, sS25, sN26, sN27, sN28, sN29, sN30], nxt := 745, pc := [], vars := wS ++ [wN1, wN2, wN3, wN5, wN6, wN7, wN8, wN9, wN10, wN11, wN12, wN13, wN14, wN15, wN16, wN17, wN18, wN19, wN20, wN21, wN22, wN23, wN24, wN26, wN27, wN28, wN29, wN30], meas := (.lit 0) }
def plG4_4 : Sx.Place := { tmplA25 with pc := [((.eq (.var 35 0 65535) (.lit 944)), false), ((.eq (.var 35 0 65535) (.lit 945)), false), ((.eq (.var 35 0 65535) (.lit 946)), true)] }
def plG4_5 : Sx.Place := { tmplA1 with pc := [((.eq (.var 35 0 65535) (.lit 944)), false), ((.eq (.var 35 0 65535) (.lit 945)), false), ((.eq (.var 35 0 65535) (.lit 946)), true), ((.var 201 0 1), true)] }
def tmplA26 : Sx.Place := { stk := [.co 254, .co 255], tm := tmA, hp := hpA [sS0, sN1, sN2, sN3, sS4, sN5, sN6, sN7, sN8, sN9, sN10, sN11, sN12, sN13, sN14, sN15, sN16, sN17, sN18, sN19, sN20, sN21, sN22, sN23, sN24, sN25, sS26, sN27, sN28, sN29, sN30], nxt := 745, pc := [], vars := wS ++ [wN1, wN2, wN3, wN5, wN6, wN7, wN8, wN9, wN10, wN11, wN12, wN13, wN14, wN15, wN16, wN17, wN18, wN19, wN20, wN21, wN22, wN23, wN24, wN25, wN27, wN28, wN29, wN30], meas := (.lit 0) }
def plG4_6 : Sx.Place := { tmplA26 with pc := [((.eq (.var 35 0 65535) (.lit 944)), false), ((.eq (.var 35 0 65535) (.lit 945)), false), ((.eq (.var 35 0 65535) (.lit 946)), false), ((.eq (.var 35 0 65535) (.lit 947)), true)] }
def plG4_7 : Sx.Place := { tmplA1 with pc := [((.eq (.var 35 0 65535) (.lit 944)), false), ((.eq (.var 35 0 65535) (.lit 945)), false), ((.eq (.var 35 0 65535) (.lit 946)), false), ((.eq (.var 35 0 65535) (.lit 947)), true), ((.var 201 0 1), true)] }
def tmplA27 : Sx.Place := { stk := [.co 254, .co 255], tm := tmA, hp := hpA [sS0, sN1, sN2, sN3, sS4, sN5, sN6, sN7, sN8, sN9, sN10, sN11, sN12, sN13, sN14, sN15, sN16, sN17, sN18, sN19, sN20, sN21, sN22, sN23, sN24, sN25, sN26, sS27, sN28, sN29, sN30], nxt := 745, pc := [], vars := wS ++ [wN1, wN2, wN3, wN5, wN6, wN7, wN8, wN9, wN10, wN11, wN12, wN13, wN14, wN15, wN16, wN17, wN18, wN19, wN20, wN21, wN22, wN23, wN24, wN25, wN26, wN28, wN29, wN30], meas := (.lit 0) }
def plG4_8 : Sx.Place := { tmplA27 with pc := [((.eq (.var 35 0 65535) (.lit 944)), false), ((.eq (.var 35 0 65535) (.lit 945)), false), ((.eq (.var 35 0 65535) (.lit 946)), false), ((.eq (.var 35 0 65535) (.lit 947)), false), ((.eq (.var 35 0 65535) (.lit 948)), true)] }
def plG4_9 : Sx.Place := { tmplA1 with pc := [((.eq (.var 35 0 65535) (.lit 944)), false), ((.eq (.var 35 0 65535) (.lit 945)), false), ((.eq (.var 35 0 65535) (.lit 946)), false), ((.eq (.var 35 0 65535) (.lit 947)), false), ((.eq (.var 35 0 65535) (.lit 948)), true), ((.var 201 0 1), true)] }
def tmplA28 : Sx.Place := { stk := [.co 254, .co 255], tm := tmA, hp := hpA [sS0, sN1, sN2, sN3, sS4, sN5, sN6, sN7, sN8, sN9, sN10, sN11, sN12, sN13, sN14, sN15, sN16, sN17, sN18, sN19, sN20, sN21, sN22, sN23, sN24, sN25, sN26, sN27, sS28, sN29, sN30], nxt := 745, pc := [], vars := wS ++ [wN1, wN2, wN3, wN5, wN6, wN7, wN8, wN9, wN10, wN11, wN12, wN13, wN14, wN15, wN16, wN17, wN18, wN19, wN20, wN21, wN22, wN23, wN24, wN25, wN26, wN27, wN29, wN30], meas := (.lit 0) }
def plG4_10 : Sx.Place := { tmplA28 with pc := [((.eq (.var 35 0 65535) (.lit 944)), false), ((.eq (.var 35 0 65535) (.lit 945)), false), ((.eq (.var 35 0 65535) (.lit 946)), false), ((.eq (.var 35 0 65535) (.lit 947)), false), ((.eq (.var 35 0 65535) (.lit 948)), false), ((.eq (.var 35 0 65535) (.lit 949)), true)] }
def plG4_11 : Sx.Place := { tmplA1 with pc := [((.eq (.var 35 0 65535) (.lit 944)), false), ((.eq (.var 35 0 65535) (.lit 945)), false), ((.eq (.var 35 0 65535) (.lit 946)), false), ((.eq (.var 35 0 65535) (.lit 947)), false), ((.eq (.var 35 0 65535) (.lit 948)), false), ((.eq (.var 35 0 65535) (.lit 949)), true), ((.var 201 0 1), true)] }
def tmplA29 : Sx.Place := { stk := [.co 254, .co 255], tm := tmA, hp := hpA [sS0, sN1, sN2, sN3, sS4, sN5, sN6, sN7, sN8, sN9, sN10, sN11, sN12, sN13, sN14, sN15, sN16, sN17, sN18, sN19, sN20, sN21, sN22, sN23, sN24, sN25, sN26, sN27, sN28, sS29, sN30], nxt := 745, pc := [], vars := wS ++ [wN1, wN2, wN3, wN5, wN6, wN7, wN8, wN9, wN10, wN11, wN12, wN13, wN14, wN15, wN16, wN17, wN18, wN19, wN20, wN21, wN22, wN23, wN24, wN25, wN26, wN27, wN28, wN30], meas := (.lit 0) }
def plG4_12 : Sx.Place := { tmplA29 with pc := [((.eq (.var 35 0 65535) (.lit 944)), false), ((.eq (.var 35 0 65535) (.lit 945)), false), ((.eq (.var 35 0 65535) (.lit 946)), false), ((.eq (.var 35 0 65535) (.lit 947)), false), ((.eq (.var 35 0 65535) (.lit 948)), false), ((.eq (.var 35 0 65535) (.lit 949)), false), ((.eq (.var 35 0 65535) (.lit 950)), true)] }
def plG4_13 : Sx.Place := { tmplA1 with pc := [((.eq (.var 35 0 65535) (.lit 944)), false), ((.eq (.var 35 0 65535) (.lit 945)), false), ((.eq (.var 35 0 65535) (.lit 946)), false), ((.eq (.var 35 0 65535) (.lit 947)), false), ((.eq (.var 35 0 65535) (.lit 948)), false), ((.eq (.var 35 0 65535) (.lit 949)), false), ((.eq (.var 35 0 65535) (.lit 950)), true), ((.var 201 0 1), true)] }
def tmplA30 : Sx.Place := { stk := [.co 254, .co 255], tm := tmA, hp := hpA [sS0, sN1, sN2, sN3, sS4, sN5, sN6, sN7, sN8, sN9, sN10, sN11, sN12, sN13, sN14, sN15, sN16, sN17, sN18, sN19, sN20, sN21, sN22, sN23, sN24, sN25, sN26, sN27, sN28, sN29, sS30], nxt := 745, pc := [], vars := wS ++ [wN1, wN2, wN3, wN5, wN6, wN7, wN8, wN9, wN10, wN11, wN12, wN13, wN14, wN15, wN16, wN17, wN18, wN19, wN20, wN21, wN22, wN23, wN24, wN25, wN26, wN27, wN28, wN29], meas := (.lit 0) }
def plG4_14 : Sx.Place := { tmplA30 with pc := [((.eq (.var 35 0 65535) (.lit 944)), false), ((.eq (.var 35 0 65535) (.lit 945)), false), ((.eq (.var 35 0 65535) (.lit 946)), false), ((.eq (.var 35 0 65535) (.lit 947)), false), ((.eq (.var 35 0 65535) (.lit 948)), false), ((.eq (.var 35 0 65535) (.lit 949)), false), ((.eq (.var 35 0 65535) (.lit 950)), false), ((.eq (.var 35 0 65535) (.lit 951)), true)] }
def plG4_15 : Sx.Place := { tmplA1 with pc := [((.eq (.var 35 0 65535) (.lit 944)), false), ((.eq (.var 35 0 65535) (.lit 945)), false), ((.eq (.var 35 0 65535) (.lit 946)), false), ((.eq (.var 35 0 65535) (.lit 947)), false), ((.eq (.var 35 0 65535) (.lit 948)), false), ((.eq (.var 35 0 65535) (.lit 949)), false), ((.eq (.var 35 0 65535) (.lit 950)), false), ((.eq (.var 35 0 65535) (.lit 951)), true), ((.var 201 0 1), true)] }
def placesG4 : List Sx.Place := [plG4_0, plG4_1, plG4_2, plG4_3, plG4_4, plG4_5, plG4_6, plG4_7, plG4_8, plG4_9, plG4_10, plG4_11, plG4_12, plG4_13, plG4_14, plG4_15]
noncomputable abbrev lawStart4 (pc : Pc) : Bool := startYes Tryd.prog (tabGlob tabs) lawEv 1645504557321206042154969182557350504982735865633579863348346156 lawBody lawFn 3 100000 placesG4 excE (psV lawPs 0) (stTab tabs pc)
def tmplA31 : Sx.Place := { stk := [.co 254, .co 255], tm := tmA, hp := hpA [sS0, sN1, sN2, sN3, sS4, sN5, sN6, sN7, sN8, sN9, sN10, sN11, sN12, sN13, sN14, sN15, sN16, sN17, sN18, sN19, sS20, sN21, sN22, sN23, sN24, sN25, sN26, sN27, sN28, sN29, sN30], nxt := 745, pc := [], vars := wS ++ [wN1, wN2, wN3, wN5, wN6, wN7, wN8, wN9, wN10, wN11, wN12, wN13, wN14, wN15, wN16, wN17, wN18, wN19, wN21, wN22, wN23, wN24, wN25, wN26, wN27, wN28, wN29, wN30], meas := (.lit 0) }
def plG5_0 : Sx.Place := { tmplA31 with pc := [((.eq (.var 35 0 65535) (.lit 2816)), true)] }
def plG5_1 : Sx.Place := { tmplA1 with pc := [((.eq (.var 35 0 65535) (.lit 2816)), true), ((.var 201 0 1), true)] }
def tmplA32 : Sx.Place := { stk := [.co 254, .co 255], tm := tmA, hp := hpA [sS0, sN1, sN2, sN3, sS4, sN5, sN6, sN7, sN8, sN9, sN10, sN11, sN12, sN13, sN14, sN15, sN16, sN17, sN18, sN19, sN20, sS21, sN22, sN23, sN24, sN25, sN26, sN27, sN28, sN29, sN30], nxt := 745, pc := [], vars := wS ++ [wN1, wN2, wN3, wN5, wN6, wN7, wN8, wN9, wN10, wN11, wN12, wN13, wN14, wN15, wN16, wN17, wN18, wN19, wN20, wN22, wN23, wN24, wN25, wN26, wN27, wN28, wN29, wN30], meas := (.lit 0) }
def plG5_2 : Sx.Place := { tmplA32 with pc := [((.eq (.var 35 0 65535) (.lit 2816)), false), ((.eq (.var 35 0 65535) (.lit 2818)), true)] }
def plG5_3 : Sx.Place := { tmplA1 with pc := [((.eq (.var 35 0 65535) (.lit 2816)), false), ((.eq (.var 35 0 65535) (.lit 2818)), true), ((.var 201 0 1), true)] }
def plG5_4 : Sx.Place := { tmplA5 with pc := [((.lt (.var 35 0 65535) (.lit 952)), false), ((.lt (.var 35 0 65535) (.lit 3072)), true), ((.eq (.var 35 0 65535) (.lit 2816)), false), ((.eq (.var 35 0 65535) (.lit 2818)), false)] }
def placesG5 : List Sx.Place := [plG5_0, plG5_1, plG5_2, plG5_3, plG5_4]
noncomputable abbrev lawStart5 (pc : Pc) : Bool := startYes Tryd.prog (tabGlob tabs) lawEv 1645504557321206042154969182557350504982735865633579863348346156 lawBody lawFn 3 100000 placesG5 excE (psV lawPs 0) (stTab tabs pc)
def plG6_0 : Sx.Place := { tmplA31 with pc := [((.eq (.var 35 0 65535) (.lit 3072)), true)] }
def plG6_1 : Sx.Place := { tmplA1 with pc := [((.eq (.var 35 0 65535) (.lit 3072)), true), ((.var 201 0 1), true)] }
def plG6_2 : Sx.Place := { tmplA5 with pc := [((.eq (.var 35 0 65535) (.lit 3072)), false), ((.eq (.var 35 0 65535) (.lit 3073)), true)] }
def plG6_3 : Sx.Place := { tmplA32 with pc := [((.eq (.var 35 0 65535) (.lit 3072)), false), ((.eq (.var 35 0 65535) (.lit 3073)), false), ((.eq (.var 35 0 65535) (.lit 3074)), true)] }
def plG6_4 : Sx.Place := { tmplA1 with pc := [((.eq (.var 35 0 65535) (.lit 3072)), false), ((.eq (.var 35 0 65535) (.lit 3073)), false), ((.eq (.var 35 0 65535) (.lit 3074)), true), ((.var 201 0 1), true)] }
def plG6_5 : Sx.Place := { tmplA5 with pc := [((.lt (.var 35 0 65535) (.lit 3072)), false), ((.lt (.var 35 0 65535) (.lit 3857)), true), ((.eq (.var 35 0 65535) (.lit 3072)), false), ((.eq (.var 35 0 65535) (.lit 3073)), false), ((.eq (.var 35 0 65535) (.lit 3074)), false)] }
def placesG6 : List Sx.Place := [plG6_0, plG6_1, plG6_2, plG6_3, plG6_4, plG6_5]
noncomputable abbrev lawStart6 (pc : Pc) : Bool := startYes Tryd.prog (tabGlob tabs) lawEv 1645504557321206042154969182557350504982735865633579863348346156 lawBody lawFn 3 100000 placesG6 excE (psV lawPs 0) (stTab tabs pc)
def plG7_0 : Sx.Place := { tmplA5 with pc := [((.eq (.var 35 0 65535) (.lit 3857)), true)] }
def plG7_1 : Sx.Place := { tmplA5 with pc := [((.eq (.var 35 0 65535) (.lit 3857)), false), ((.eq (.var 35 0 65535) (.lit 3858)), true)] }
def plG7_2 : Sx.Place := { tmplA5 with pc := [((.eq (.var 35 0 65535) (.lit 3857)), false), ((.eq (.var 35 0 65535) (.lit 3858)), false), ((.eq (.var 35 0 65535) (.lit 3859)), true)] }
def plG7_3 : Sx.Place := { tmplA5 with pc := [((.eq (.var 35 0 65535) (.lit 3857)), false), ((.eq (.var 35 0 65535) (.lit 3858)), false), ((.eq (.var 35 0 65535) (.lit 3859)), false), ((.eq (.var 35 0 65535) (.lit 3860)), true)] }
def plG7_4 : Sx.Place := { tmplA5 with pc := [((.lt (.var 35 0 65535) (.lit 3857)), false), ((.eq (.var 35 0 65535) (.lit 3857)), false), ((.eq (.var 35 0 65535) (.lit 3858)), false), ((.eq (.var 35 0 65535) (.lit 3859)), false), ((.eq (.var 35 0 65535) (.lit 3860)), false)] }
def placesG7 : List Sx.Place := [plG7_0, plG7_1, plG7_2, plG7_3, plG7_4]
noncomputable abbrev lawStart7 (pc : Pc) : Bool := startYes Tryd.prog (tabGlob tabs) lawEv 1645504557321206042154969182557350504982735865633579863348346156 lawBody lawFn 3 100000 placesG7 excE (psV lawPs 0) (stTab tabs pc)
end
end Go.Proofs.YtffhbmkpcenkoaaDoor.Sx
