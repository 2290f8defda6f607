/- CsrApart: places parted by the other register. -/
import Derived.Test.YtffhbmkpcenkoaaDoorUCsrApart
set_option linter.unusedVariables false
set_option linter.unusedSimpArgs false
namespace Go.Proofs.YtffhbmkpcenkoaaDoor.Sx
open Go
noncomputable section
set_option maxRecDepth 100000
theorem plG4_0_yes : placeYes Tryd.prog (tabGlob tabs) lawEv 1645504557321206042154969182557350504982735865633579863348346156 lawBody lawFn 3 100000 placesG4 excE plG4_0 = true := by kernel_rfl
theorem plG4_1_yes : placeYes Tryd.prog (tabGlob tabs) lawEv 1645504557321206042154969182557350504982735865633579863348346156 lawBody lawFn 3 100000 placesG4 excE plG4_1 = true := by kernel_rfl
theorem plG4_2_yes : placeYes Tryd.prog (tabGlob tabs) lawEv 1645504557321206042154969182557350504982735865633579863348346156 lawBody lawFn 3 100000 placesG4 excE plG4_2 = true := by kernel_rfl
theorem plG4_3_yes : placeYes Tryd.prog (tabGlob tabs) lawEv 1645504557321206042154969182557350504982735865633579863348346156 lawBody lawFn 3 100000 placesG4 excE plG4_3 = true := by kernel_rfl
theorem plG4_4_yes : placeYes Tryd.prog (tabGlob tabs) lawEv 1645504557321206042154969182557350504982735865633579863348346156 lawBody lawFn 3 100000 placesG4 excE plG4_4 = true := by kernel_rfl
theorem plG4_5_yes : placeYes Tryd.prog (tabGlob tabs) lawEv 1645504557321206042154969182557350504982735865633579863348346156 lawBody lawFn 3 100000 placesG4 excE plG4_5 = true := by kernel_rfl
theorem plG4_6_yes : placeYes Tryd.prog (tabGlob tabs) lawEv 1645504557321206042154969182557350504982735865633579863348346156 lawBody lawFn 3 100000 placesG4 excE plG4_6 = true := by kernel_rfl
theorem plG4_7_yes : placeYes Tryd.prog (tabGlob tabs) lawEv 1645504557321206042154969182557350504982735865633579863348346156 lawBody lawFn 3 100000 placesG4 excE plG4_7 = true := by kernel_rfl
theorem plG4_8_yes : placeYes Tryd.prog (tabGlob tabs) lawEv 1645504557321206042154969182557350504982735865633579863348346156 lawBody lawFn 3 100000 placesG4 excE plG4_8 = true := by kernel_rfl
theorem plG4_9_yes : placeYes Tryd.prog (tabGlob tabs) lawEv 1645504557321206042154969182557350504982735865633579863348346156 lawBody lawFn 3 100000 placesG4 excE plG4_9 = true := by kernel_rfl
theorem plG4_10_yes : placeYes Tryd.prog (tabGlob tabs) lawEv 1645504557321206042154969182557350504982735865633579863348346156 lawBody lawFn 3 100000 placesG4 excE plG4_10 = true := by kernel_rfl
theorem plG4_11_yes : placeYes Tryd.prog (tabGlob tabs) lawEv 1645504557321206042154969182557350504982735865633579863348346156 lawBody lawFn 3 100000 placesG4 excE plG4_11 = true := by kernel_rfl
theorem plG4_12_yes : placeYes Tryd.prog (tabGlob tabs) lawEv 1645504557321206042154969182557350504982735865633579863348346156 lawBody lawFn 3 100000 placesG4 excE plG4_12 = true := by kernel_rfl
theorem plG4_13_yes : placeYes Tryd.prog (tabGlob tabs) lawEv 1645504557321206042154969182557350504982735865633579863348346156 lawBody lawFn 3 100000 placesG4 excE plG4_13 = true := by kernel_rfl
theorem plG4_14_yes : placeYes Tryd.prog (tabGlob tabs) lawEv 1645504557321206042154969182557350504982735865633579863348346156 lawBody lawFn 3 100000 placesG4 excE plG4_14 = true := by kernel_rfl
theorem plG4_15_yes : placeYes Tryd.prog (tabGlob tabs) lawEv 1645504557321206042154969182557350504982735865633579863348346156 lawBody lawFn 3 100000 placesG4 excE plG4_15 = true := by kernel_rfl
theorem placesG4_yes : ∀ p ∈ placesG4, placeYes Tryd.prog (tabGlob tabs) lawEv 1645504557321206042154969182557350504982735865633579863348346156 lawBody lawFn 3 100000 placesG4 excE p = true :=
  List.forall_mem_cons.2 ⟨plG4_0_yes, List.forall_mem_cons.2 ⟨plG4_1_yes, List.forall_mem_cons.2 ⟨plG4_2_yes, List.forall_mem_cons.2 ⟨plG4_3_yes, List.forall_mem_cons.2 ⟨plG4_4_yes, List.forall_mem_cons.2 ⟨plG4_5_yes, List.forall_mem_cons.2 ⟨plG4_6_yes, List.forall_mem_cons.2 ⟨plG4_7_yes, List.forall_mem_cons.2 ⟨plG4_8_yes, List.forall_mem_cons.2 ⟨plG4_9_yes, List.forall_mem_cons.2 ⟨plG4_10_yes, List.forall_mem_cons.2 ⟨plG4_11_yes, List.forall_mem_cons.2 ⟨plG4_12_yes, List.forall_mem_cons.2 ⟨plG4_13_yes, List.forall_mem_cons.2 ⟨plG4_14_yes, List.forall_mem_cons.2 ⟨plG4_15_yes, (fun p h => by cases h)⟩⟩⟩⟩⟩⟩⟩⟩⟩⟩⟩⟩⟩⟩⟩⟩
theorem placesG4_paths : ∀ p ∈ placesG4, pathsOk p.stk :=
  List.forall_mem_cons.2 ⟨(by show pathsOk _; simp [plG4_0, tmplA23, pathsOk]), List.forall_mem_cons.2 ⟨(by show pathsOk _; simp [plG4_1, tmplA1, pathsOk]), List.forall_mem_cons.2 ⟨(by show pathsOk _; simp [plG4_2, tmplA24, pathsOk]), List.forall_mem_cons.2 ⟨(by show pathsOk _; simp [plG4_3, tmplA1, pathsOk]), List.forall_mem_cons.2 ⟨(by show pathsOk _; simp [plG4_4, tmplA25, pathsOk]), List.forall_mem_cons.2 ⟨(by show pathsOk _; simp [plG4_5, tmplA1, pathsOk]), List.forall_mem_cons.2 ⟨(by show pathsOk _; simp [plG4_6, tmplA26, pathsOk]), List.forall_mem_cons.2 ⟨(by show pathsOk _; simp [plG4_7, tmplA1, pathsOk]), List.forall_mem_cons.2 ⟨(by show pathsOk _; simp [plG4_8, tmplA27, pathsOk]), List.forall_mem_cons.2 ⟨(by show pathsOk _; simp [plG4_9, tmplA1, pathsOk]), List.forall_mem_cons.2 ⟨(by show pathsOk _; simp [plG4_10, tmplA28, pathsOk]), List.forall_mem_cons.2 ⟨(by show pathsOk _; simp [plG4_11, tmplA1, pathsOk]), List.forall_mem_cons.2 ⟨(by show pathsOk _; simp [plG4_12, tmplA29, pathsOk]), List.forall_mem_cons.2 ⟨(by show pathsOk _; simp [plG4_13, tmplA1, pathsOk]), List.forall_mem_cons.2 ⟨(by show pathsOk _; simp [plG4_14, tmplA30, pathsOk]), List.forall_mem_cons.2 ⟨(by show pathsOk _; simp [plG4_15, tmplA1, pathsOk]), (fun p h => by cases h)⟩⟩⟩⟩⟩⟩⟩⟩⟩⟩⟩⟩⟩⟩⟩⟩
theorem plG5_0_yes : placeYes Tryd.prog (tabGlob tabs) lawEv 1645504557321206042154969182557350504982735865633579863348346156 lawBody lawFn 3 100000 placesG5 excE plG5_0 = true := by kernel_rfl
theorem plG5_1_yes : placeYes Tryd.prog (tabGlob tabs) lawEv 1645504557321206042154969182557350504982735865633579863348346156 lawBody lawFn 3 100000 placesG5 excE plG5_1 = true := by kernel_rfl
theorem plG5_2_yes : placeYes Tryd.prog (tabGlob tabs) lawEv 1645504557321206042154969182557350504982735865633579863348346156 lawBody lawFn 3 100000 placesG5 excE plG5_2 = true := by kernel_rfl
theorem plG5_3_yes : placeYes Tryd.prog (tabGlob tabs) lawEv 1645504557321206042154969182557350504982735865633579863348346156 lawBody lawFn 3 100000 placesG5 excE plG5_3 = true := by kernel_rfl
theorem plG5_4_yes : placeYes Tryd.prog (tabGlob tabs) lawEv 1645504557321206042154969182557350504982735865633579863348346156 lawBody lawFn 3 100000 placesG5 excE plG5_4 = true := by kernel_rfl
theorem placesG5_yes : ∀ p ∈ placesG5, placeYes Tryd.prog (tabGlob tabs) lawEv 1645504557321206042154969182557350504982735865633579863348346156 lawBody lawFn 3 100000 placesG5 excE p = true :=
  List.forall_mem_cons.2 ⟨plG5_0_yes, List.forall_mem_cons.2 ⟨plG5_1_yes, List.forall_mem_cons.2 ⟨plG5_2_yes, List.forall_mem_cons.2 ⟨plG5_3_yes, List.forall_mem_cons.2 ⟨plG5_4_yes, (fun p h => by cases h)⟩⟩⟩⟩⟩
theorem placesG5_paths : ∀ p ∈ placesG5, pathsOk p.stk :=
  List.forall_mem_cons.2 ⟨(by show pathsOk _; simp [plG5_0, tmplA31, pathsOk]), List.forall_mem_cons.2 ⟨(by show pathsOk _; simp [plG5_1, tmplA1, pathsOk]), List.forall_mem_cons.2 ⟨(by show pathsOk _; simp [plG5_2, tmplA32, pathsOk]), List.forall_mem_cons.2 ⟨(by show pathsOk _; simp [plG5_3, tmplA1, pathsOk]), List.forall_mem_cons.2 ⟨(by show pathsOk _; simp [plG5_4, tmplA5, pathsOk]), (fun p h => by cases h)⟩⟩⟩⟩⟩
theorem plG6_0_yes : placeYes Tryd.prog (tabGlob tabs) lawEv 1645504557321206042154969182557350504982735865633579863348346156 lawBody lawFn 3 100000 placesG6 excE plG6_0 = true := by kernel_rfl
theorem plG6_1_yes : placeYes Tryd.prog (tabGlob tabs) lawEv 1645504557321206042154969182557350504982735865633579863348346156 lawBody lawFn 3 100000 placesG6 excE plG6_1 = true := by kernel_rfl
theorem plG6_2_yes : placeYes Tryd.prog (tabGlob tabs) lawEv 1645504557321206042154969182557350504982735865633579863348346156 lawBody lawFn 3 100000 placesG6 excE plG6_2 = true := by kernel_rfl
theorem plG6_3_yes : placeYes Tryd.prog (tabGlob tabs) lawEv 1645504557321206042154969182557350504982735865633579863348346156 lawBody lawFn 3 100000 placesG6 excE plG6_3 = true := by kernel_rfl
theorem plG6_4_yes : placeYes Tryd.prog (tabGlob tabs) lawEv 1645504557321206042154969182557350504982735865633579863348346156 lawBody lawFn 3 100000 placesG6 excE plG6_4 = true := by kernel_rfl
theorem plG6_5_yes : placeYes Tryd.prog (tabGlob tabs) lawEv 1645504557321206042154969182557350504982735865633579863348346156 lawBody lawFn 3 100000 placesG6 excE plG6_5 = true := by kernel_rfl
theorem placesG6_yes : ∀ p ∈ placesG6, placeYes Tryd.prog (tabGlob tabs) lawEv 1645504557321206042154969182557350504982735865633579863348346156 lawBody lawFn 3 100000 placesG6 excE p = true :=
  List.forall_mem_cons.2 ⟨plG6_0_yes, List.forall_mem_cons.2 ⟨plG6_1_yes, List.forall_mem_cons.2 ⟨plG6_2_yes, List.forall_mem_cons.2 ⟨plG6_3_yes, List.forall_mem_cons.2 ⟨plG6_4_yes, List.forall_mem_cons.2 ⟨plG6_5_yes, (fun p h => by cases h)⟩⟩⟩⟩⟩⟩
theorem placesG6_paths : ∀ p ∈ placesG6, pathsOk p.stk :=
  List.forall_mem_cons.2 ⟨(by show pathsOk _; simp [plG6_0, tmplA31, pathsOk]), List.forall_mem_cons.2 ⟨(by show pathsOk _; simp [plG6_1, tmplA1, pathsOk]), List.forall_mem_cons.2 ⟨(by show pathsOk _; simp [plG6_2, tmplA5, pathsOk]), List.forall_mem_cons.2 ⟨(by show pathsOk _; simp [plG6_3, tmplA32, pathsOk]), List.forall_mem_cons.2 ⟨(by show pathsOk _; simp [plG6_4, tmplA1, pathsOk]), List.forall_mem_cons.2 ⟨(by show pathsOk _; simp [plG6_5, tmplA5, pathsOk]), (fun p h => by cases h)⟩⟩⟩⟩⟩⟩
theorem plG7_0_yes : placeYes Tryd.prog (tabGlob tabs) lawEv 1645504557321206042154969182557350504982735865633579863348346156 lawBody lawFn 3 100000 placesG7 excE plG7_0 = true := by kernel_rfl
theorem plG7_1_yes : placeYes Tryd.prog (tabGlob tabs) lawEv 1645504557321206042154969182557350504982735865633579863348346156 lawBody lawFn 3 100000 placesG7 excE plG7_1 = true := by kernel_rfl
theorem plG7_2_yes : placeYes Tryd.prog (tabGlob tabs) lawEv 1645504557321206042154969182557350504982735865633579863348346156 lawBody lawFn 3 100000 placesG7 excE plG7_2 = true := by kernel_rfl
theorem plG7_3_yes : placeYes Tryd.prog (tabGlob tabs) lawEv 1645504557321206042154969182557350504982735865633579863348346156 lawBody lawFn 3 100000 placesG7 excE plG7_3 = true := by kernel_rfl
theorem plG7_4_yes : placeYes Tryd.prog (tabGlob tabs) lawEv 1645504557321206042154969182557350504982735865633579863348346156 lawBody lawFn 3 100000 placesG7 excE plG7_4 = true := by kernel_rfl
theorem placesG7_yes : ∀ p ∈ placesG7, placeYes Tryd.prog (tabGlob tabs) lawEv 1645504557321206042154969182557350504982735865633579863348346156 lawBody lawFn 3 100000 placesG7 excE p = true :=
  List.forall_mem_cons.2 ⟨plG7_0_yes, List.forall_mem_cons.2 ⟨plG7_1_yes, List.forall_mem_cons.2 ⟨plG7_2_yes, List.forall_mem_cons.2 ⟨plG7_3_yes, List.forall_mem_cons.2 ⟨plG7_4_yes, (fun p h => by cases h)⟩⟩⟩⟩⟩
theorem placesG7_paths : ∀ p ∈ placesG7, pathsOk p.stk :=
  List.forall_mem_cons.2 ⟨(by show pathsOk _; simp [plG7_0, tmplA5, pathsOk]), List.forall_mem_cons.2 ⟨(by show pathsOk _; simp [plG7_1, tmplA5, pathsOk]), List.forall_mem_cons.2 ⟨(by show pathsOk _; simp [plG7_2, tmplA5, pathsOk]), List.forall_mem_cons.2 ⟨(by show pathsOk _; simp [plG7_3, tmplA5, pathsOk]), List.forall_mem_cons.2 ⟨(by show pathsOk _; simp [plG7_4, tmplA5, pathsOk]), (fun p h => by cases h)⟩⟩⟩⟩⟩
end
end Go.Proofs.YtffhbmkpcenkoaaDoor.Sx
