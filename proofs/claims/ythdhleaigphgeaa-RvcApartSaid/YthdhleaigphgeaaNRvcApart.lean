/- RvcApart: of all arguments, the law answers true: read by the reader, in every order that Go leaves open. -/
import Derived.Test.YthdhleaigphgeaaURvcApartP0
import Derived.Test.YthdhleaigphgeaaURvcApartP1
import Derived.Test.YthdhleaigphgeaaURvcApartP2
import Derived.Test.YthdhleaigphgeaaURvcApartP3
import Derived.Test.YthdhleaigphgeaaURvcApartP4
import Derived.Test.YthdhleaigphgeaaURvcApartP5
import Derived.Test.YthdhleaigphgeaaURvcApartP6
import Derived.Test.YthdhleaigphgeaaURvcApartP7
import Derived.Test.YthdhleaigphgeaaURvcApartP8
import Derived.Test.YthdhleaigphgeaaURvcApartP9
import Derived.Test.YthdhleaigphgeaaURvcApartP10
import Derived.Test.YthdhleaigphgeaaURvcApartP11
import Derived.Test.YthdhleaigphgeaaURvcApartP12
import Derived.Test.YthdhleaigphgeaaURvcApartP13
import Derived.Test.YthdhleaigphgeaaURvcApartP14
import Derived.Test.YthdhleaigphgeaaURvcApartP15
import Derived.Test.YthdhleaigphgeaaURvcApartP16
import Derived.Test.YthdhleaigphgeaaURvcApartP17
set_option linter.unusedVariables false
set_option linter.unusedSimpArgs false
namespace Go.Proofs.Ythdhleaigphgeaa
open Go.ChangeShapes Go.WideShapes Go.ChangeAt Go.RowKit

theorem Try.own : ownKnob Try.prog.godebug = none := by kernel_rfl
theorem Try.laidOut : laidOutB Try.prog = true := by kernel_rfl

theorem okw_list {P : Program} {W : World} {r : Reach} {b0 : Nat} {ts : Array TypeId} {vs : Array Value} (h : ∀ (j : Nat) t v, ts[j]? = some t → vs[j]? = some v → Value.okWide P W r b0 t v) :
    ∀ (j : Nat) t v, ts.toList[j]? = some t → vs.toList[j]? = some v → Value.okWide P W r b0 t v := fun j t v a b => h j t v (by simpa using a) (by simpa using b)
theorem args_ok : Sx.V.okL (({ nxt := 0, hp := .nil, pc := [] } : Sx.St)).hp (Sx.psV Sx.lawPs 0) := by simp [Sx.psV, Sx.lawPs, Sx.V.okL, Sx.V.ok, Sx.cellV, Sx.cellsV]
set_option maxRecDepth 100000 in
theorem law_any {H : Type} {enc : TypeId × Value → H} {W : World} {base b0 : Nat} {r : Reach} {sp : Nat → Bool} {held : Bool} {args : Array Value} {ds : List (DataW H)} {ps : List MemPlace}
    (hA : DataW.TrodAll enc Try.prog W base sp held Try.f6.params.toList args.toList ds ps) (hval : ∀ (j : Nat) t v, Try.f6.params[j]? = some t → args[j]? = some v → Value.okWide Try.prog W r b0 t v) :
    Calls Try.prog 6 args W fun e w' => e = .returned (.bool true) ∧ Below W.heap.size W w' := by
  have hargs := Sx.open_args (Sx.env0 (Sx.intsOf Sx.lawPs args.toList []) (fun _ => undef)) (l := Sx.lawPs) (i := 0) (g := []) (by kernel_rfl) hA (okw_list hval)
    (by intro j v n u h; exfalso; revert h; simp [Sx.lawPs]; rcases j with _ | _ | _ <;> simp) (Nat.le_of_ble_eq_true (by kernel_rfl)) (fun j _ => by rw [Nat.zero_add]; rfl)
  have fin : ∀ e : Sx.Env, Sx.V.denL e (Sx.psV Sx.lawPs 0) = args.toList → Calls Try.prog 6 (Sx.V.denL e (Sx.psV Sx.lawPs 0)).toArray W (fun e w' => e = .returned (.bool true) ∧ Below W.heap.size W w') → Calls Try.prog 6 args W fun e w' => e = .returned (.bool true) ∧ Below W.heap.size W w' := fun e h1 h2 => by
    rw [h1] at h2; simpa using h2
  refine fin _ hargs ?_
  have leaf : ∀ pc : Sx.Pc, Sx.lawStart pc = true → Sx.Holds (Sx.env0 (Sx.intsOf Sx.lawPs args.toList []) (fun _ => undef)).int pc → Calls Try.prog 6 (Sx.V.denL (Sx.env0 (Sx.intsOf Sx.lawPs args.toList []) (fun _ => undef)) (Sx.psV Sx.lawPs 0)).toArray W (fun e w' => e = .returned (.bool true) ∧ Below W.heap.size W w') := fun pc hs hpc =>
    Sx.law_of_places (w0 := W) (Sx.ev_ok Sx.base_ok (by kernel_rfl) _) (by kernel_rfl) Try.func6 (show Try.f6.body = some Sx.lawBody from rfl) Sx.noGlob_any Sx.excE_no Sx.placesE_yes Sx.placesE_paths hs args_ok Sx.gok_none (Sx.rep0 _ W) hpc
  exact (Sx.by_case Sx.q3
    (Sx.by_case Sx.q2
    (Sx.by_case Sx.q1
    (Sx.by_case Sx.q0
    (leaf Sx.lawPc0 Sx.start0_yes)
    (Sx.by_case Sx.q5
    (Sx.by_case Sx.q4
    (leaf Sx.lawPc1 Sx.start1_yes)
    (Sx.by_case Sx.q6
    (leaf Sx.lawPc2 Sx.start2_yes)
    (leaf Sx.lawPc3 Sx.start3_yes)))
    (Sx.by_case Sx.q8
    (Sx.by_case Sx.q7
    (leaf Sx.lawPc4 Sx.start4_yes)
    (Sx.by_case Sx.q9
    (leaf Sx.lawPc5 Sx.start5_yes)
    (Sx.by_case Sx.q10
    (leaf Sx.lawPc6 Sx.start6_yes)
    (leaf Sx.lawPc7 Sx.start7_yes))))
    (leaf Sx.lawPc8 Sx.start8_yes))))
    (Sx.by_case Sx.q0
    (leaf Sx.lawPc9 Sx.start9_yes)
    (Sx.by_case Sx.q5
    (Sx.by_case Sx.q4
    (leaf Sx.lawPc10 Sx.start10_yes)
    (Sx.by_case Sx.q6
    (leaf Sx.lawPc11 Sx.start11_yes)
    (leaf Sx.lawPc12 Sx.start12_yes)))
    (Sx.by_case Sx.q8
    (Sx.by_case Sx.q7
    (leaf Sx.lawPc13 Sx.start13_yes)
    (Sx.by_case Sx.q9
    (leaf Sx.lawPc14 Sx.start14_yes)
    (Sx.by_case Sx.q10
    (leaf Sx.lawPc15 Sx.start15_yes)
    (leaf Sx.lawPc16 Sx.start16_yes))))
    (leaf Sx.lawPc17 Sx.start17_yes)))))
    (Sx.by_case Sx.q11
    (Sx.by_case Sx.q0
    (leaf Sx.lawPc18 Sx.start18_yes)
    (Sx.by_case Sx.q5
    (Sx.by_case Sx.q4
    (leaf Sx.lawPc19 Sx.start19_yes)
    (Sx.by_case Sx.q6
    (leaf Sx.lawPc20 Sx.start20_yes)
    (leaf Sx.lawPc21 Sx.start21_yes)))
    (Sx.by_case Sx.q8
    (Sx.by_case Sx.q7
    (leaf Sx.lawPc22 Sx.start22_yes)
    (Sx.by_case Sx.q9
    (leaf Sx.lawPc23 Sx.start23_yes)
    (Sx.by_case Sx.q10
    (leaf Sx.lawPc24 Sx.start24_yes)
    (leaf Sx.lawPc25 Sx.start25_yes))))
    (leaf Sx.lawPc26 Sx.start26_yes))))
    (Sx.by_case Sx.q12
    (Sx.by_case Sx.q0
    (leaf Sx.lawPc27 Sx.start27_yes)
    (Sx.by_case Sx.q5
    (Sx.by_case Sx.q4
    (leaf Sx.lawPc28 Sx.start28_yes)
    (Sx.by_case Sx.q6
    (leaf Sx.lawPc29 Sx.start29_yes)
    (leaf Sx.lawPc30 Sx.start30_yes)))
    (Sx.by_case Sx.q8
    (Sx.by_case Sx.q7
    (leaf Sx.lawPc31 Sx.start31_yes)
    (Sx.by_case Sx.q9
    (leaf Sx.lawPc32 Sx.start32_yes)
    (Sx.by_case Sx.q10
    (leaf Sx.lawPc33 Sx.start33_yes)
    (leaf Sx.lawPc34 Sx.start34_yes))))
    (leaf Sx.lawPc35 Sx.start35_yes))))
    (Sx.by_case Sx.q13
    (Sx.by_case Sx.q0
    (leaf Sx.lawPc36 Sx.start36_yes)
    (Sx.by_case Sx.q5
    (Sx.by_case Sx.q4
    (leaf Sx.lawPc37 Sx.start37_yes)
    (Sx.by_case Sx.q6
    (leaf Sx.lawPc38 Sx.start38_yes)
    (leaf Sx.lawPc39 Sx.start39_yes)))
    (Sx.by_case Sx.q8
    (Sx.by_case Sx.q7
    (leaf Sx.lawPc40 Sx.start40_yes)
    (Sx.by_case Sx.q9
    (leaf Sx.lawPc41 Sx.start41_yes)
    (Sx.by_case Sx.q10
    (leaf Sx.lawPc42 Sx.start42_yes)
    (leaf Sx.lawPc43 Sx.start43_yes))))
    (leaf Sx.lawPc44 Sx.start44_yes))))
    (Sx.by_case Sx.q14
    (Sx.by_case Sx.q0
    (leaf Sx.lawPc45 Sx.start45_yes)
    (Sx.by_case Sx.q5
    (Sx.by_case Sx.q4
    (leaf Sx.lawPc46 Sx.start46_yes)
    (Sx.by_case Sx.q6
    (leaf Sx.lawPc47 Sx.start47_yes)
    (leaf Sx.lawPc48 Sx.start48_yes)))
    (Sx.by_case Sx.q8
    (Sx.by_case Sx.q7
    (leaf Sx.lawPc49 Sx.start49_yes)
    (Sx.by_case Sx.q9
    (leaf Sx.lawPc50 Sx.start50_yes)
    (Sx.by_case Sx.q10
    (leaf Sx.lawPc51 Sx.start51_yes)
    (leaf Sx.lawPc52 Sx.start52_yes))))
    (leaf Sx.lawPc53 Sx.start53_yes))))
    (Sx.by_case Sx.q0
    (Sx.by_case Sx.q7
    (leaf Sx.lawPc54 Sx.start54_yes)
    (leaf Sx.lawPc55 Sx.start55_yes))
    (Sx.by_case Sx.q5
    (Sx.by_case Sx.q4
    (leaf Sx.lawPc56 Sx.start56_yes)
    (Sx.by_case Sx.q6
    (leaf Sx.lawPc57 Sx.start57_yes)
    (leaf Sx.lawPc58 Sx.start58_yes)))
    (Sx.by_case Sx.q8
    (Sx.by_case Sx.q7
    (leaf Sx.lawPc59 Sx.start59_yes)
    (Sx.by_case Sx.q9
    (leaf Sx.lawPc60 Sx.start60_yes)
    (Sx.by_case Sx.q10
    (leaf Sx.lawPc61 Sx.start61_yes)
    (leaf Sx.lawPc62 Sx.start62_yes))))
    (leaf Sx.lawPc63 Sx.start63_yes)))))))))
    (Sx.by_case Sx.q16
    (Sx.by_case Sx.q15
    (Sx.by_case Sx.q2
    (Sx.by_case Sx.q0
    (leaf Sx.lawPc64 Sx.start64_yes)
    (Sx.by_case Sx.q5
    (Sx.by_case Sx.q4
    (Sx.by_case Sx.q7
    (leaf Sx.lawPc65 Sx.start65_yes)
    (Sx.by_case Sx.q17
    (leaf Sx.lawPc66 Sx.start66_yes)
    (leaf Sx.lawPc67 Sx.start67_yes)))
    (Sx.by_case Sx.q6
    (leaf Sx.lawPc68 Sx.start68_yes)
    (leaf Sx.lawPc69 Sx.start69_yes)))
    (Sx.by_case Sx.q8
    (Sx.by_case Sx.q7
    (leaf Sx.lawPc70 Sx.start70_yes)
    (Sx.by_case Sx.q9
    (leaf Sx.lawPc71 Sx.start71_yes)
    (Sx.by_case Sx.q10
    (leaf Sx.lawPc72 Sx.start72_yes)
    (leaf Sx.lawPc73 Sx.start73_yes))))
    (leaf Sx.lawPc74 Sx.start74_yes))))
    (Sx.by_case Sx.q19
    (Sx.by_case Sx.q18
    (Sx.by_case Sx.q0
    (leaf Sx.lawPc75 Sx.start75_yes)
    (Sx.by_case Sx.q5
    (Sx.by_case Sx.q4
    (leaf Sx.lawPc76 Sx.start76_yes)
    (Sx.by_case Sx.q6
    (leaf Sx.lawPc77 Sx.start77_yes)
    (leaf Sx.lawPc78 Sx.start78_yes)))
    (Sx.by_case Sx.q8
    (Sx.by_case Sx.q7
    (leaf Sx.lawPc79 Sx.start79_yes)
    (Sx.by_case Sx.q9
    (leaf Sx.lawPc80 Sx.start80_yes)
    (Sx.by_case Sx.q10
    (leaf Sx.lawPc81 Sx.start81_yes)
    (leaf Sx.lawPc82 Sx.start82_yes))))
    (leaf Sx.lawPc83 Sx.start83_yes))))
    (Sx.by_case Sx.q0
    (leaf Sx.lawPc84 Sx.start84_yes)
    (Sx.by_case Sx.q5
    (Sx.by_case Sx.q4
    (leaf Sx.lawPc85 Sx.start85_yes)
    (Sx.by_case Sx.q6
    (leaf Sx.lawPc86 Sx.start86_yes)
    (leaf Sx.lawPc87 Sx.start87_yes)))
    (Sx.by_case Sx.q8
    (Sx.by_case Sx.q7
    (leaf Sx.lawPc88 Sx.start88_yes)
    (Sx.by_case Sx.q9
    (leaf Sx.lawPc89 Sx.start89_yes)
    (Sx.by_case Sx.q10
    (leaf Sx.lawPc90 Sx.start90_yes)
    (leaf Sx.lawPc91 Sx.start91_yes))))
    (leaf Sx.lawPc92 Sx.start92_yes)))))
    (Sx.by_case Sx.q11
    (Sx.by_case Sx.q0
    (leaf Sx.lawPc93 Sx.start93_yes)
    (Sx.by_case Sx.q5
    (Sx.by_case Sx.q4
    (Sx.by_case Sx.q7
    (leaf Sx.lawPc94 Sx.start94_yes)
    (leaf Sx.lawPc95 Sx.start95_yes))
    (Sx.by_case Sx.q6
    (leaf Sx.lawPc96 Sx.start96_yes)
    (leaf Sx.lawPc97 Sx.start97_yes)))
    (Sx.by_case Sx.q8
    (Sx.by_case Sx.q7
    (leaf Sx.lawPc98 Sx.start98_yes)
    (Sx.by_case Sx.q9
    (leaf Sx.lawPc99 Sx.start99_yes)
    (Sx.by_case Sx.q10
    (leaf Sx.lawPc100 Sx.start100_yes)
    (leaf Sx.lawPc101 Sx.start101_yes))))
    (leaf Sx.lawPc102 Sx.start102_yes))))
    (Sx.by_case Sx.q21
    (Sx.by_case Sx.q20
    (Sx.by_case Sx.q0
    (leaf Sx.lawPc103 Sx.start103_yes)
    (Sx.by_case Sx.q5
    (Sx.by_case Sx.q4
    (leaf Sx.lawPc104 Sx.start104_yes)
    (Sx.by_case Sx.q6
    (leaf Sx.lawPc105 Sx.start105_yes)
    (leaf Sx.lawPc106 Sx.start106_yes)))
    (Sx.by_case Sx.q8
    (Sx.by_case Sx.q7
    (leaf Sx.lawPc107 Sx.start107_yes)
    (Sx.by_case Sx.q9
    (leaf Sx.lawPc108 Sx.start108_yes)
    (Sx.by_case Sx.q10
    (leaf Sx.lawPc109 Sx.start109_yes)
    (leaf Sx.lawPc110 Sx.start110_yes))))
    (leaf Sx.lawPc111 Sx.start111_yes))))
    (Sx.by_case Sx.q0
    (leaf Sx.lawPc112 Sx.start112_yes)
    (Sx.by_case Sx.q5
    (Sx.by_case Sx.q4
    (Sx.by_case Sx.q7
    (leaf Sx.lawPc113 Sx.start113_yes)
    (Sx.by_case Sx.q17
    (leaf Sx.lawPc114 Sx.start114_yes)
    (leaf Sx.lawPc115 Sx.start115_yes)))
    (Sx.by_case Sx.q6
    (leaf Sx.lawPc116 Sx.start116_yes)
    (leaf Sx.lawPc117 Sx.start117_yes)))
    (Sx.by_case Sx.q8
    (Sx.by_case Sx.q7
    (leaf Sx.lawPc118 Sx.start118_yes)
    (Sx.by_case Sx.q9
    (leaf Sx.lawPc119 Sx.start119_yes)
    (Sx.by_case Sx.q10
    (leaf Sx.lawPc120 Sx.start120_yes)
    (leaf Sx.lawPc121 Sx.start121_yes))))
    (leaf Sx.lawPc122 Sx.start122_yes)))))
    (Sx.by_case Sx.q22
    (Sx.by_case Sx.q0
    (leaf Sx.lawPc123 Sx.start123_yes)
    (Sx.by_case Sx.q5
    (Sx.by_case Sx.q4
    (leaf Sx.lawPc124 Sx.start124_yes)
    (Sx.by_case Sx.q6
    (leaf Sx.lawPc125 Sx.start125_yes)
    (leaf Sx.lawPc126 Sx.start126_yes)))
    (Sx.by_case Sx.q8
    (Sx.by_case Sx.q7
    (leaf Sx.lawPc127 Sx.start127_yes)
    (Sx.by_case Sx.q9
    (leaf Sx.lawPc128 Sx.start128_yes)
    (Sx.by_case Sx.q10
    (leaf Sx.lawPc129 Sx.start129_yes)
    (leaf Sx.lawPc130 Sx.start130_yes))))
    (leaf Sx.lawPc131 Sx.start131_yes))))
    (Sx.by_case Sx.q0
    (leaf Sx.lawPc132 Sx.start132_yes)
    (Sx.by_case Sx.q5
    (Sx.by_case Sx.q4
    (Sx.by_case Sx.q7
    (leaf Sx.lawPc133 Sx.start133_yes)
    (Sx.by_case Sx.q17
    (leaf Sx.lawPc134 Sx.start134_yes)
    (leaf Sx.lawPc135 Sx.start135_yes)))
    (Sx.by_case Sx.q6
    (leaf Sx.lawPc136 Sx.start136_yes)
    (leaf Sx.lawPc137 Sx.start137_yes)))
    (Sx.by_case Sx.q8
    (Sx.by_case Sx.q7
    (leaf Sx.lawPc138 Sx.start138_yes)
    (Sx.by_case Sx.q9
    (leaf Sx.lawPc139 Sx.start139_yes)
    (Sx.by_case Sx.q10
    (leaf Sx.lawPc140 Sx.start140_yes)
    (leaf Sx.lawPc141 Sx.start141_yes))))
    (leaf Sx.lawPc142 Sx.start142_yes)))))))))
    (Sx.by_case Sx.q23
    (Sx.by_case Sx.q0
    (leaf Sx.lawPc143 Sx.start143_yes)
    (Sx.by_case Sx.q5
    (Sx.by_case Sx.q4
    (leaf Sx.lawPc144 Sx.start144_yes)
    (Sx.by_case Sx.q6
    (leaf Sx.lawPc145 Sx.start145_yes)
    (leaf Sx.lawPc146 Sx.start146_yes)))
    (Sx.by_case Sx.q8
    (Sx.by_case Sx.q7
    (leaf Sx.lawPc147 Sx.start147_yes)
    (Sx.by_case Sx.q9
    (leaf Sx.lawPc148 Sx.start148_yes)
    (Sx.by_case Sx.q10
    (leaf Sx.lawPc149 Sx.start149_yes)
    (leaf Sx.lawPc150 Sx.start150_yes))))
    (leaf Sx.lawPc151 Sx.start151_yes))))
    (Sx.by_case Sx.q13
    (Sx.by_case Sx.q0
    (leaf Sx.lawPc152 Sx.start152_yes)
    (Sx.by_case Sx.q5
    (Sx.by_case Sx.q4
    (leaf Sx.lawPc153 Sx.start153_yes)
    (Sx.by_case Sx.q6
    (leaf Sx.lawPc154 Sx.start154_yes)
    (Sx.by_case Sx.q24
    (leaf Sx.lawPc155 Sx.start155_yes)
    (leaf Sx.lawPc156 Sx.start156_yes))))
    (Sx.by_case Sx.q8
    (Sx.by_case Sx.q7
    (leaf Sx.lawPc157 Sx.start157_yes)
    (Sx.by_case Sx.q9
    (leaf Sx.lawPc158 Sx.start158_yes)
    (Sx.by_case Sx.q10
    (leaf Sx.lawPc159 Sx.start159_yes)
    (leaf Sx.lawPc160 Sx.start160_yes))))
    (leaf Sx.lawPc161 Sx.start161_yes))))
    (Sx.by_case Sx.q14
    (Sx.by_case Sx.q0
    (leaf Sx.lawPc162 Sx.start162_yes)
    (Sx.by_case Sx.q5
    (Sx.by_case Sx.q4
    (leaf Sx.lawPc163 Sx.start163_yes)
    (Sx.by_case Sx.q6
    (leaf Sx.lawPc164 Sx.start164_yes)
    (Sx.by_case Sx.q24
    (leaf Sx.lawPc165 Sx.start165_yes)
    (Sx.by_case Sx.q25
    (leaf Sx.lawPc166 Sx.start166_yes)
    (leaf Sx.lawPc167 Sx.start167_yes)))))
    (Sx.by_case Sx.q8
    (Sx.by_case Sx.q7
    (leaf Sx.lawPc168 Sx.start168_yes)
    (Sx.by_case Sx.q9
    (leaf Sx.lawPc169 Sx.start169_yes)
    (Sx.by_case Sx.q10
    (leaf Sx.lawPc170 Sx.start170_yes)
    (leaf Sx.lawPc171 Sx.start171_yes))))
    (leaf Sx.lawPc172 Sx.start172_yes))))
    (Sx.by_case Sx.q26
    (Sx.by_case Sx.q0
    (leaf Sx.lawPc173 Sx.start173_yes)
    (Sx.by_case Sx.q5
    (Sx.by_case Sx.q4
    (leaf Sx.lawPc174 Sx.start174_yes)
    (Sx.by_case Sx.q6
    (leaf Sx.lawPc175 Sx.start175_yes)
    (Sx.by_case Sx.q24
    (leaf Sx.lawPc176 Sx.start176_yes)
    (Sx.by_case Sx.q25
    (leaf Sx.lawPc177 Sx.start177_yes)
    (Sx.by_case Sx.q27
    (leaf Sx.lawPc178 Sx.start178_yes)
    (leaf Sx.lawPc179 Sx.start179_yes))))))
    (Sx.by_case Sx.q8
    (Sx.by_case Sx.q7
    (leaf Sx.lawPc180 Sx.start180_yes)
    (Sx.by_case Sx.q9
    (leaf Sx.lawPc181 Sx.start181_yes)
    (Sx.by_case Sx.q10
    (leaf Sx.lawPc182 Sx.start182_yes)
    (leaf Sx.lawPc183 Sx.start183_yes))))
    (leaf Sx.lawPc184 Sx.start184_yes))))
    (Sx.by_case Sx.q28
    (Sx.by_case Sx.q0
    (leaf Sx.lawPc185 Sx.start185_yes)
    (Sx.by_case Sx.q5
    (Sx.by_case Sx.q4
    (leaf Sx.lawPc186 Sx.start186_yes)
    (Sx.by_case Sx.q6
    (leaf Sx.lawPc187 Sx.start187_yes)
    (Sx.by_case Sx.q24
    (leaf Sx.lawPc188 Sx.start188_yes)
    (Sx.by_case Sx.q25
    (leaf Sx.lawPc189 Sx.start189_yes)
    (Sx.by_case Sx.q27
    (leaf Sx.lawPc190 Sx.start190_yes)
    (Sx.by_case Sx.q29
    (leaf Sx.lawPc191 Sx.start191_yes)
    (leaf Sx.lawPc192 Sx.start192_yes)))))))
    (Sx.by_case Sx.q8
    (Sx.by_case Sx.q7
    (leaf Sx.lawPc193 Sx.start193_yes)
    (Sx.by_case Sx.q9
    (leaf Sx.lawPc194 Sx.start194_yes)
    (Sx.by_case Sx.q10
    (leaf Sx.lawPc195 Sx.start195_yes)
    (leaf Sx.lawPc196 Sx.start196_yes))))
    (leaf Sx.lawPc197 Sx.start197_yes))))
    (Sx.by_case Sx.q30
    (Sx.by_case Sx.q0
    (leaf Sx.lawPc198 Sx.start198_yes)
    (Sx.by_case Sx.q5
    (Sx.by_case Sx.q4
    (leaf Sx.lawPc199 Sx.start199_yes)
    (Sx.by_case Sx.q6
    (leaf Sx.lawPc200 Sx.start200_yes)
    (Sx.by_case Sx.q24
    (leaf Sx.lawPc201 Sx.start201_yes)
    (Sx.by_case Sx.q25
    (leaf Sx.lawPc202 Sx.start202_yes)
    (Sx.by_case Sx.q27
    (leaf Sx.lawPc203 Sx.start203_yes)
    (Sx.by_case Sx.q29
    (leaf Sx.lawPc204 Sx.start204_yes)
    (leaf Sx.lawPc205 Sx.start205_yes)))))))
    (Sx.by_case Sx.q8
    (Sx.by_case Sx.q7
    (leaf Sx.lawPc206 Sx.start206_yes)
    (Sx.by_case Sx.q9
    (leaf Sx.lawPc207 Sx.start207_yes)
    (Sx.by_case Sx.q10
    (leaf Sx.lawPc208 Sx.start208_yes)
    (leaf Sx.lawPc209 Sx.start209_yes))))
    (leaf Sx.lawPc210 Sx.start210_yes))))
    (Sx.by_case Sx.q31
    (Sx.by_case Sx.q0
    (leaf Sx.lawPc211 Sx.start211_yes)
    (Sx.by_case Sx.q5
    (Sx.by_case Sx.q4
    (leaf Sx.lawPc212 Sx.start212_yes)
    (Sx.by_case Sx.q6
    (leaf Sx.lawPc213 Sx.start213_yes)
    (Sx.by_case Sx.q24
    (leaf Sx.lawPc214 Sx.start214_yes)
    (Sx.by_case Sx.q25
    (leaf Sx.lawPc215 Sx.start215_yes)
    (Sx.by_case Sx.q27
    (leaf Sx.lawPc216 Sx.start216_yes)
    (Sx.by_case Sx.q29
    (leaf Sx.lawPc217 Sx.start217_yes)
    (leaf Sx.lawPc218 Sx.start218_yes)))))))
    (Sx.by_case Sx.q8
    (Sx.by_case Sx.q7
    (leaf Sx.lawPc219 Sx.start219_yes)
    (Sx.by_case Sx.q9
    (leaf Sx.lawPc220 Sx.start220_yes)
    (Sx.by_case Sx.q10
    (leaf Sx.lawPc221 Sx.start221_yes)
    (leaf Sx.lawPc222 Sx.start222_yes))))
    (leaf Sx.lawPc223 Sx.start223_yes))))
    (Sx.by_case Sx.q32
    (Sx.by_case Sx.q0
    (leaf Sx.lawPc224 Sx.start224_yes)
    (Sx.by_case Sx.q5
    (Sx.by_case Sx.q4
    (leaf Sx.lawPc225 Sx.start225_yes)
    (Sx.by_case Sx.q6
    (leaf Sx.lawPc226 Sx.start226_yes)
    (Sx.by_case Sx.q24
    (leaf Sx.lawPc227 Sx.start227_yes)
    (Sx.by_case Sx.q25
    (leaf Sx.lawPc228 Sx.start228_yes)
    (Sx.by_case Sx.q27
    (leaf Sx.lawPc229 Sx.start229_yes)
    (Sx.by_case Sx.q29
    (leaf Sx.lawPc230 Sx.start230_yes)
    (leaf Sx.lawPc231 Sx.start231_yes)))))))
    (Sx.by_case Sx.q8
    (Sx.by_case Sx.q7
    (leaf Sx.lawPc232 Sx.start232_yes)
    (Sx.by_case Sx.q9
    (leaf Sx.lawPc233 Sx.start233_yes)
    (Sx.by_case Sx.q10
    (leaf Sx.lawPc234 Sx.start234_yes)
    (leaf Sx.lawPc235 Sx.start235_yes))))
    (leaf Sx.lawPc236 Sx.start236_yes))))
    (Sx.by_case Sx.q33
    (Sx.by_case Sx.q0
    (leaf Sx.lawPc237 Sx.start237_yes)
    (Sx.by_case Sx.q5
    (Sx.by_case Sx.q4
    (leaf Sx.lawPc238 Sx.start238_yes)
    (Sx.by_case Sx.q6
    (leaf Sx.lawPc239 Sx.start239_yes)
    (Sx.by_case Sx.q24
    (leaf Sx.lawPc240 Sx.start240_yes)
    (Sx.by_case Sx.q25
    (leaf Sx.lawPc241 Sx.start241_yes)
    (Sx.by_case Sx.q27
    (leaf Sx.lawPc242 Sx.start242_yes)
    (Sx.by_case Sx.q29
    (leaf Sx.lawPc243 Sx.start243_yes)
    (leaf Sx.lawPc244 Sx.start244_yes)))))))
    (Sx.by_case Sx.q8
    (Sx.by_case Sx.q7
    (leaf Sx.lawPc245 Sx.start245_yes)
    (Sx.by_case Sx.q9
    (leaf Sx.lawPc246 Sx.start246_yes)
    (Sx.by_case Sx.q10
    (leaf Sx.lawPc247 Sx.start247_yes)
    (leaf Sx.lawPc248 Sx.start248_yes))))
    (leaf Sx.lawPc249 Sx.start249_yes))))
    (Sx.by_case Sx.q34
    (Sx.by_case Sx.q0
    (leaf Sx.lawPc250 Sx.start250_yes)
    (Sx.by_case Sx.q5
    (Sx.by_case Sx.q4
    (leaf Sx.lawPc251 Sx.start251_yes)
    (Sx.by_case Sx.q6
    (leaf Sx.lawPc252 Sx.start252_yes)
    (Sx.by_case Sx.q24
    (leaf Sx.lawPc253 Sx.start253_yes)
    (Sx.by_case Sx.q25
    (leaf Sx.lawPc254 Sx.start254_yes)
    (Sx.by_case Sx.q27
    (leaf Sx.lawPc255 Sx.start255_yes)
    (Sx.by_case Sx.q29
    (leaf Sx.lawPc256 Sx.start256_yes)
    (leaf Sx.lawPc257 Sx.start257_yes)))))))
    (Sx.by_case Sx.q8
    (Sx.by_case Sx.q7
    (leaf Sx.lawPc258 Sx.start258_yes)
    (Sx.by_case Sx.q9
    (leaf Sx.lawPc259 Sx.start259_yes)
    (Sx.by_case Sx.q10
    (leaf Sx.lawPc260 Sx.start260_yes)
    (leaf Sx.lawPc261 Sx.start261_yes))))
    (leaf Sx.lawPc262 Sx.start262_yes))))
    (Sx.by_case Sx.q35
    (Sx.by_case Sx.q0
    (leaf Sx.lawPc263 Sx.start263_yes)
    (Sx.by_case Sx.q5
    (Sx.by_case Sx.q4
    (leaf Sx.lawPc264 Sx.start264_yes)
    (Sx.by_case Sx.q6
    (leaf Sx.lawPc265 Sx.start265_yes)
    (Sx.by_case Sx.q24
    (leaf Sx.lawPc266 Sx.start266_yes)
    (Sx.by_case Sx.q25
    (leaf Sx.lawPc267 Sx.start267_yes)
    (Sx.by_case Sx.q27
    (leaf Sx.lawPc268 Sx.start268_yes)
    (Sx.by_case Sx.q29
    (leaf Sx.lawPc269 Sx.start269_yes)
    (leaf Sx.lawPc270 Sx.start270_yes)))))))
    (Sx.by_case Sx.q8
    (Sx.by_case Sx.q7
    (leaf Sx.lawPc271 Sx.start271_yes)
    (Sx.by_case Sx.q9
    (leaf Sx.lawPc272 Sx.start272_yes)
    (Sx.by_case Sx.q10
    (leaf Sx.lawPc273 Sx.start273_yes)
    (leaf Sx.lawPc274 Sx.start274_yes))))
    (leaf Sx.lawPc275 Sx.start275_yes))))
    (Sx.by_case Sx.q36
    (Sx.by_case Sx.q0
    (leaf Sx.lawPc276 Sx.start276_yes)
    (Sx.by_case Sx.q5
    (Sx.by_case Sx.q4
    (leaf Sx.lawPc277 Sx.start277_yes)
    (Sx.by_case Sx.q6
    (leaf Sx.lawPc278 Sx.start278_yes)
    (Sx.by_case Sx.q24
    (leaf Sx.lawPc279 Sx.start279_yes)
    (Sx.by_case Sx.q25
    (leaf Sx.lawPc280 Sx.start280_yes)
    (Sx.by_case Sx.q27
    (leaf Sx.lawPc281 Sx.start281_yes)
    (Sx.by_case Sx.q29
    (leaf Sx.lawPc282 Sx.start282_yes)
    (leaf Sx.lawPc283 Sx.start283_yes)))))))
    (Sx.by_case Sx.q8
    (Sx.by_case Sx.q7
    (leaf Sx.lawPc284 Sx.start284_yes)
    (Sx.by_case Sx.q9
    (leaf Sx.lawPc285 Sx.start285_yes)
    (Sx.by_case Sx.q10
    (leaf Sx.lawPc286 Sx.start286_yes)
    (leaf Sx.lawPc287 Sx.start287_yes))))
    (leaf Sx.lawPc288 Sx.start288_yes))))
    (Sx.by_case Sx.q0
    (leaf Sx.lawPc289 Sx.start289_yes)
    (Sx.by_case Sx.q5
    (Sx.by_case Sx.q4
    (leaf Sx.lawPc290 Sx.start290_yes)
    (Sx.by_case Sx.q6
    (leaf Sx.lawPc291 Sx.start291_yes)
    (Sx.by_case Sx.q24
    (leaf Sx.lawPc292 Sx.start292_yes)
    (Sx.by_case Sx.q25
    (leaf Sx.lawPc293 Sx.start293_yes)
    (Sx.by_case Sx.q27
    (leaf Sx.lawPc294 Sx.start294_yes)
    (Sx.by_case Sx.q29
    (leaf Sx.lawPc295 Sx.start295_yes)
    (Sx.by_case Sx.q37
    (leaf Sx.lawPc296 Sx.start296_yes)
    (Sx.by_case Sx.q38
    (leaf Sx.lawPc297 Sx.start297_yes)
    (leaf Sx.lawPc298 Sx.start298_yes)))))))))
    (Sx.by_case Sx.q8
    (Sx.by_case Sx.q7
    (leaf Sx.lawPc299 Sx.start299_yes)
    (Sx.by_case Sx.q9
    (leaf Sx.lawPc300 Sx.start300_yes)
    (Sx.by_case Sx.q10
    (leaf Sx.lawPc301 Sx.start301_yes)
    (leaf Sx.lawPc302 Sx.start302_yes))))
    (leaf Sx.lawPc303 Sx.start303_yes)))))))))))))))))
    (Sx.by_case Sx.q39
    (Sx.by_case Sx.q2
    (Sx.by_case Sx.q0
    (leaf Sx.lawPc304 Sx.start304_yes)
    (Sx.by_case Sx.q5
    (Sx.by_case Sx.q4
    (leaf Sx.lawPc305 Sx.start305_yes)
    (Sx.by_case Sx.q6
    (leaf Sx.lawPc306 Sx.start306_yes)
    (leaf Sx.lawPc307 Sx.start307_yes)))
    (Sx.by_case Sx.q8
    (Sx.by_case Sx.q7
    (leaf Sx.lawPc308 Sx.start308_yes)
    (Sx.by_case Sx.q9
    (leaf Sx.lawPc309 Sx.start309_yes)
    (Sx.by_case Sx.q10
    (leaf Sx.lawPc310 Sx.start310_yes)
    (leaf Sx.lawPc311 Sx.start311_yes))))
    (leaf Sx.lawPc312 Sx.start312_yes))))
    (Sx.by_case Sx.q11
    (Sx.by_case Sx.q18
    (Sx.by_case Sx.q0
    (leaf Sx.lawPc313 Sx.start313_yes)
    (Sx.by_case Sx.q5
    (Sx.by_case Sx.q4
    (leaf Sx.lawPc314 Sx.start314_yes)
    (Sx.by_case Sx.q6
    (leaf Sx.lawPc315 Sx.start315_yes)
    (leaf Sx.lawPc316 Sx.start316_yes)))
    (Sx.by_case Sx.q8
    (Sx.by_case Sx.q7
    (leaf Sx.lawPc317 Sx.start317_yes)
    (Sx.by_case Sx.q9
    (leaf Sx.lawPc318 Sx.start318_yes)
    (Sx.by_case Sx.q10
    (leaf Sx.lawPc319 Sx.start319_yes)
    (leaf Sx.lawPc320 Sx.start320_yes))))
    (leaf Sx.lawPc321 Sx.start321_yes))))
    (Sx.by_case Sx.q0
    (leaf Sx.lawPc322 Sx.start322_yes)
    (Sx.by_case Sx.q5
    (Sx.by_case Sx.q4
    (leaf Sx.lawPc323 Sx.start323_yes)
    (Sx.by_case Sx.q6
    (leaf Sx.lawPc324 Sx.start324_yes)
    (leaf Sx.lawPc325 Sx.start325_yes)))
    (Sx.by_case Sx.q8
    (Sx.by_case Sx.q7
    (leaf Sx.lawPc326 Sx.start326_yes)
    (Sx.by_case Sx.q9
    (leaf Sx.lawPc327 Sx.start327_yes)
    (Sx.by_case Sx.q10
    (leaf Sx.lawPc328 Sx.start328_yes)
    (leaf Sx.lawPc329 Sx.start329_yes))))
    (leaf Sx.lawPc330 Sx.start330_yes)))))
    (Sx.by_case Sx.q12
    (Sx.by_case Sx.q18
    (Sx.by_case Sx.q0
    (leaf Sx.lawPc331 Sx.start331_yes)
    (Sx.by_case Sx.q5
    (Sx.by_case Sx.q4
    (leaf Sx.lawPc332 Sx.start332_yes)
    (Sx.by_case Sx.q6
    (leaf Sx.lawPc333 Sx.start333_yes)
    (leaf Sx.lawPc334 Sx.start334_yes)))
    (Sx.by_case Sx.q8
    (Sx.by_case Sx.q7
    (leaf Sx.lawPc335 Sx.start335_yes)
    (Sx.by_case Sx.q9
    (leaf Sx.lawPc336 Sx.start336_yes)
    (Sx.by_case Sx.q10
    (leaf Sx.lawPc337 Sx.start337_yes)
    (leaf Sx.lawPc338 Sx.start338_yes))))
    (leaf Sx.lawPc339 Sx.start339_yes))))
    (Sx.by_case Sx.q0
    (leaf Sx.lawPc340 Sx.start340_yes)
    (Sx.by_case Sx.q5
    (Sx.by_case Sx.q4
    (leaf Sx.lawPc341 Sx.start341_yes)
    (Sx.by_case Sx.q6
    (leaf Sx.lawPc342 Sx.start342_yes)
    (leaf Sx.lawPc343 Sx.start343_yes)))
    (Sx.by_case Sx.q8
    (Sx.by_case Sx.q7
    (leaf Sx.lawPc344 Sx.start344_yes)
    (Sx.by_case Sx.q9
    (leaf Sx.lawPc345 Sx.start345_yes)
    (Sx.by_case Sx.q10
    (leaf Sx.lawPc346 Sx.start346_yes)
    (leaf Sx.lawPc347 Sx.start347_yes))))
    (leaf Sx.lawPc348 Sx.start348_yes)))))
    (Sx.by_case Sx.q41
    (Sx.by_case Sx.q40
    (Sx.by_case Sx.q18
    (Sx.by_case Sx.q0
    (leaf Sx.lawPc349 Sx.start349_yes)
    (Sx.by_case Sx.q5
    (Sx.by_case Sx.q4
    (leaf Sx.lawPc350 Sx.start350_yes)
    (Sx.by_case Sx.q6
    (leaf Sx.lawPc351 Sx.start351_yes)
    (leaf Sx.lawPc352 Sx.start352_yes)))
    (Sx.by_case Sx.q8
    (Sx.by_case Sx.q7
    (leaf Sx.lawPc353 Sx.start353_yes)
    (Sx.by_case Sx.q9
    (leaf Sx.lawPc354 Sx.start354_yes)
    (Sx.by_case Sx.q10
    (leaf Sx.lawPc355 Sx.start355_yes)
    (Sx.by_case Sx.q42
    (leaf Sx.lawPc356 Sx.start356_yes)
    (leaf Sx.lawPc357 Sx.start357_yes)))))
    (leaf Sx.lawPc358 Sx.start358_yes))))
    (Sx.by_case Sx.q0
    (leaf Sx.lawPc359 Sx.start359_yes)
    (Sx.by_case Sx.q5
    (Sx.by_case Sx.q4
    (leaf Sx.lawPc360 Sx.start360_yes)
    (Sx.by_case Sx.q6
    (leaf Sx.lawPc361 Sx.start361_yes)
    (leaf Sx.lawPc362 Sx.start362_yes)))
    (Sx.by_case Sx.q8
    (Sx.by_case Sx.q7
    (leaf Sx.lawPc363 Sx.start363_yes)
    (Sx.by_case Sx.q9
    (leaf Sx.lawPc364 Sx.start364_yes)
    (Sx.by_case Sx.q10
    (leaf Sx.lawPc365 Sx.start365_yes)
    (Sx.by_case Sx.q42
    (Sx.by_case Sx.q43
    (leaf Sx.lawPc366 Sx.start366_yes)
    (leaf Sx.lawPc367 Sx.start367_yes))
    (leaf Sx.lawPc368 Sx.start368_yes)))))
    (leaf Sx.lawPc369 Sx.start369_yes)))))
    (Sx.by_case Sx.q44
    (Sx.by_case Sx.q0
    (leaf Sx.lawPc370 Sx.start370_yes)
    (Sx.by_case Sx.q5
    (Sx.by_case Sx.q4
    (leaf Sx.lawPc371 Sx.start371_yes)
    (Sx.by_case Sx.q6
    (leaf Sx.lawPc372 Sx.start372_yes)
    (leaf Sx.lawPc373 Sx.start373_yes)))
    (Sx.by_case Sx.q8
    (Sx.by_case Sx.q7
    (leaf Sx.lawPc374 Sx.start374_yes)
    (Sx.by_case Sx.q9
    (leaf Sx.lawPc375 Sx.start375_yes)
    (Sx.by_case Sx.q10
    (leaf Sx.lawPc376 Sx.start376_yes)
    (Sx.by_case Sx.q42
    (Sx.by_case Sx.q43
    (leaf Sx.lawPc377 Sx.start377_yes)
    (Sx.by_case Sx.q45
    (leaf Sx.lawPc378 Sx.start378_yes)
    (leaf Sx.lawPc379 Sx.start379_yes)))
    (leaf Sx.lawPc380 Sx.start380_yes)))))
    (leaf Sx.lawPc381 Sx.start381_yes))))
    (Sx.by_case Sx.q46
    (Sx.by_case Sx.q0
    (leaf Sx.lawPc382 Sx.start382_yes)
    (Sx.by_case Sx.q5
    (Sx.by_case Sx.q4
    (leaf Sx.lawPc383 Sx.start383_yes)
    (Sx.by_case Sx.q6
    (leaf Sx.lawPc384 Sx.start384_yes)
    (leaf Sx.lawPc385 Sx.start385_yes)))
    (Sx.by_case Sx.q8
    (Sx.by_case Sx.q7
    (leaf Sx.lawPc386 Sx.start386_yes)
    (Sx.by_case Sx.q9
    (leaf Sx.lawPc387 Sx.start387_yes)
    (Sx.by_case Sx.q10
    (leaf Sx.lawPc388 Sx.start388_yes)
    (leaf Sx.lawPc389 Sx.start389_yes))))
    (leaf Sx.lawPc390 Sx.start390_yes))))
    (Sx.by_case Sx.q47
    (Sx.by_case Sx.q18
    (Sx.by_case Sx.q0
    (leaf Sx.lawPc391 Sx.start391_yes)
    (Sx.by_case Sx.q5
    (Sx.by_case Sx.q4
    (leaf Sx.lawPc392 Sx.start392_yes)
    (Sx.by_case Sx.q6
    (leaf Sx.lawPc393 Sx.start393_yes)
    (leaf Sx.lawPc394 Sx.start394_yes)))
    (Sx.by_case Sx.q8
    (Sx.by_case Sx.q7
    (leaf Sx.lawPc395 Sx.start395_yes)
    (Sx.by_case Sx.q9
    (leaf Sx.lawPc396 Sx.start396_yes)
    (Sx.by_case Sx.q10
    (leaf Sx.lawPc397 Sx.start397_yes)
    (Sx.by_case Sx.q42
    (leaf Sx.lawPc398 Sx.start398_yes)
    (leaf Sx.lawPc399 Sx.start399_yes)))))
    (leaf Sx.lawPc400 Sx.start400_yes))))
    (Sx.by_case Sx.q0
    (leaf Sx.lawPc401 Sx.start401_yes)
    (Sx.by_case Sx.q5
    (Sx.by_case Sx.q4
    (leaf Sx.lawPc402 Sx.start402_yes)
    (Sx.by_case Sx.q6
    (leaf Sx.lawPc403 Sx.start403_yes)
    (leaf Sx.lawPc404 Sx.start404_yes)))
    (Sx.by_case Sx.q8
    (Sx.by_case Sx.q7
    (leaf Sx.lawPc405 Sx.start405_yes)
    (Sx.by_case Sx.q9
    (leaf Sx.lawPc406 Sx.start406_yes)
    (Sx.by_case Sx.q10
    (leaf Sx.lawPc407 Sx.start407_yes)
    (Sx.by_case Sx.q42
    (Sx.by_case Sx.q43
    (leaf Sx.lawPc408 Sx.start408_yes)
    (Sx.by_case Sx.q45
    (leaf Sx.lawPc409 Sx.start409_yes)
    (leaf Sx.lawPc410 Sx.start410_yes)))
    (leaf Sx.lawPc411 Sx.start411_yes)))))
    (leaf Sx.lawPc412 Sx.start412_yes)))))
    (Sx.by_case Sx.q48
    (Sx.by_case Sx.q0
    (leaf Sx.lawPc413 Sx.start413_yes)
    (Sx.by_case Sx.q5
    (Sx.by_case Sx.q4
    (leaf Sx.lawPc414 Sx.start414_yes)
    (Sx.by_case Sx.q6
    (leaf Sx.lawPc415 Sx.start415_yes)
    (leaf Sx.lawPc416 Sx.start416_yes)))
    (Sx.by_case Sx.q8
    (Sx.by_case Sx.q7
    (leaf Sx.lawPc417 Sx.start417_yes)
    (Sx.by_case Sx.q9
    (leaf Sx.lawPc418 Sx.start418_yes)
    (Sx.by_case Sx.q10
    (leaf Sx.lawPc419 Sx.start419_yes)
    (Sx.by_case Sx.q42
    (Sx.by_case Sx.q43
    (leaf Sx.lawPc420 Sx.start420_yes)
    (Sx.by_case Sx.q45
    (leaf Sx.lawPc421 Sx.start421_yes)
    (Sx.by_case Sx.q49
    (leaf Sx.lawPc422 Sx.start422_yes)
    (leaf Sx.lawPc423 Sx.start423_yes))))
    (leaf Sx.lawPc424 Sx.start424_yes)))))
    (leaf Sx.lawPc425 Sx.start425_yes))))
    (Sx.by_case Sx.q0
    (leaf Sx.lawPc426 Sx.start426_yes)
    (Sx.by_case Sx.q5
    (Sx.by_case Sx.q4
    (leaf Sx.lawPc427 Sx.start427_yes)
    (Sx.by_case Sx.q6
    (leaf Sx.lawPc428 Sx.start428_yes)
    (leaf Sx.lawPc429 Sx.start429_yes)))
    (Sx.by_case Sx.q8
    (Sx.by_case Sx.q7
    (leaf Sx.lawPc430 Sx.start430_yes)
    (Sx.by_case Sx.q9
    (leaf Sx.lawPc431 Sx.start431_yes)
    (Sx.by_case Sx.q10
    (leaf Sx.lawPc432 Sx.start432_yes)
    (Sx.by_case Sx.q42
    (Sx.by_case Sx.q43
    (leaf Sx.lawPc433 Sx.start433_yes)
    (leaf Sx.lawPc434 Sx.start434_yes))
    (leaf Sx.lawPc435 Sx.start435_yes)))))
    (leaf Sx.lawPc436 Sx.start436_yes)))))))))
    (Sx.by_case Sx.q13
    (Sx.by_case Sx.q0
    (leaf Sx.lawPc437 Sx.start437_yes)
    (Sx.by_case Sx.q5
    (Sx.by_case Sx.q4
    (leaf Sx.lawPc438 Sx.start438_yes)
    (Sx.by_case Sx.q6
    (leaf Sx.lawPc439 Sx.start439_yes)
    (leaf Sx.lawPc440 Sx.start440_yes)))
    (Sx.by_case Sx.q8
    (Sx.by_case Sx.q7
    (leaf Sx.lawPc441 Sx.start441_yes)
    (Sx.by_case Sx.q9
    (leaf Sx.lawPc442 Sx.start442_yes)
    (Sx.by_case Sx.q10
    (leaf Sx.lawPc443 Sx.start443_yes)
    (Sx.by_case Sx.q42
    (leaf Sx.lawPc444 Sx.start444_yes)
    (leaf Sx.lawPc445 Sx.start445_yes)))))
    (leaf Sx.lawPc446 Sx.start446_yes))))
    (Sx.by_case Sx.q14
    (Sx.by_case Sx.q0
    (leaf Sx.lawPc447 Sx.start447_yes)
    (Sx.by_case Sx.q5
    (Sx.by_case Sx.q4
    (leaf Sx.lawPc448 Sx.start448_yes)
    (Sx.by_case Sx.q6
    (leaf Sx.lawPc449 Sx.start449_yes)
    (leaf Sx.lawPc450 Sx.start450_yes)))
    (Sx.by_case Sx.q8
    (Sx.by_case Sx.q7
    (leaf Sx.lawPc451 Sx.start451_yes)
    (Sx.by_case Sx.q9
    (leaf Sx.lawPc452 Sx.start452_yes)
    (Sx.by_case Sx.q10
    (leaf Sx.lawPc453 Sx.start453_yes)
    (Sx.by_case Sx.q42
    (leaf Sx.lawPc454 Sx.start454_yes)
    (leaf Sx.lawPc455 Sx.start455_yes)))))
    (leaf Sx.lawPc456 Sx.start456_yes))))
    (Sx.by_case Sx.q0
    (leaf Sx.lawPc457 Sx.start457_yes)
    (Sx.by_case Sx.q5
    (Sx.by_case Sx.q4
    (leaf Sx.lawPc458 Sx.start458_yes)
    (Sx.by_case Sx.q6
    (leaf Sx.lawPc459 Sx.start459_yes)
    (leaf Sx.lawPc460 Sx.start460_yes)))
    (Sx.by_case Sx.q8
    (Sx.by_case Sx.q7
    (leaf Sx.lawPc461 Sx.start461_yes)
    (Sx.by_case Sx.q9
    (leaf Sx.lawPc462 Sx.start462_yes)
    (Sx.by_case Sx.q10
    (leaf Sx.lawPc463 Sx.start463_yes)
    (Sx.by_case Sx.q42
    (Sx.by_case Sx.q43
    (leaf Sx.lawPc464 Sx.start464_yes)
    (leaf Sx.lawPc465 Sx.start465_yes))
    (leaf Sx.lawPc466 Sx.start466_yes)))))
    (leaf Sx.lawPc467 Sx.start467_yes))))))))))
    (Sx.by_case Sx.q0
    (leaf Sx.lawPc468 Sx.start468_yes)
    (Sx.by_case Sx.q5
    (Sx.by_case Sx.q4
    (leaf Sx.lawPc469 Sx.start469_yes)
    (Sx.by_case Sx.q6
    (leaf Sx.lawPc470 Sx.start470_yes)
    (leaf Sx.lawPc471 Sx.start471_yes)))
    (Sx.by_case Sx.q8
    (Sx.by_case Sx.q7
    (leaf Sx.lawPc472 Sx.start472_yes)
    (Sx.by_case Sx.q9
    (leaf Sx.lawPc473 Sx.start473_yes)
    (Sx.by_case Sx.q10
    (leaf Sx.lawPc474 Sx.start474_yes)
    (leaf Sx.lawPc475 Sx.start475_yes))))
    (leaf Sx.lawPc476 Sx.start476_yes))))))) (fun c t h => by cases h)

set_option maxRecDepth 100000 in
theorem law_lifted (os : Os) (started : os.Started) (H : Type) (enc : TypeId × Value → H) :
    ReturnsInHanded {} Try.checked os 6 .any (Rows.rvcApartSpec.pre6 enc Try.prog Try.f6 Rows.rvcApartRow.domain false) (Rows.rvcApartSpec.post enc Try.prog Try.f6 false true false false) := by
  refine returnsInHanded_of_change (C := Try.checked) Try.own started (by kernel_rfl) Try.func6
    (ChangeSpec.witness6 (enc := enc) (C := Try.checked) false ⟨#[], #[.int .u16 0, .int .u16 0], []⟩ 8 (by kernel_rfl) (by kernel_rfl) (by kernel_rfl) (by kernel_rfl)) ?_
  intro W base args ds gs before hval0 hW hcnd _
  have hW' := hW
  obtain ⟨p, q, hA0, hV, rfl, hfz, hnd⟩ := hW
  have hA : DataW.TrodAll enc Try.prog W 0 (fun _ => true) true Try.f6.params.toList args.toList ds p := hA0
  have hval : ∀ (j : Nat) t v, Try.f6.params[j]? = some t → args[j]? = some v → Value.okWide Try.prog W .any base t v := hval0
  obtain ⟨rfl, rfl⟩ := trodVars_none hV
  have hA2 := hA
  rw [Try.params6] at hA2
  obtain ⟨_, _, d0, ds0, p0, q0, _, rfl, rfl, _, r0⟩ := trodAll_cons hA2
  obtain ⟨_, _, d1, ds1, p1, q1, _, rfl, rfl, _, r1⟩ := trodAll_cons r0
  obtain ⟨_, rfl, rfl⟩ := trodAll_nil r1
  refine (law_any hA hval).mono fun e W' ⟨he, bel⟩ => ?_
  subst he
  exact ⟨_, rfl, _, _, _, [], _, [], hW', trodAll_mk1 (shut_bool Try.underlying4 _), Sx.trodAll_below Try.laidOut bel (by kernel_rfl) hA, rfl, bel.frame _, fun h => by cases h⟩

theorem law_over : Rows.rvcApartRow.holds Try.pinned (OpenSpec.ofChange Rows.rvcApartSpec) :=
  OpenClaim.holds_of_wide 6 Try.f6 rfl rfl rfl rfl rfl rfl rfl ⟨rfl, rfl, rfl, rfl, rfl⟩ rfl rfl rfl rfl rfl (by kernel_rfl) Try.func6 (by kernel_rfl)
    (of_decide_eq_true (by kernel_rfl)) (by unfold Func.isWrapper; first | (rw [if_pos (by decide +kernel)]; kernel_rfl) | (rw [if_neg (by decide +kernel)]; exact ⟨rfl, rfl⟩))
    (fun os started H enc _ => law_lifted os started H enc)

theorem rvcApart_holds : Rows.RvcApartSaid := law_over
end Go.Proofs.Ythdhleaigphgeaa
