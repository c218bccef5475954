/- What is known of the program's types. -/
import Derived.Test.YtjnckbefajfgbaaRm1
import Derived.Test.YtjnckbefajfgbaaProg
import Derived.KernelRfl
set_option linter.unusedVariables false
set_option linter.unusedSimpArgs false
namespace Go.Proofs.Ytjnckbefajfgbaa
open Go Go.Ev
def tyL : List (Nat × Ty) := [(1, ⟨7, false, 1, 8, .nilf, [], [], 0, 0⟩),
  (2, ⟨0, false, 1, 8, .int .i64 (0), [], [], 0, 0⟩),
  (3, ⟨0, false, 1, 8, .int .i64 (0), [], [], 0, 0⟩),
  (4, ⟨1, false, 1, 1, .bool false, [], [], 0, 0⟩),
  (9, ⟨2, false, 1, 16, .str ⟨#[]⟩, [], [], 0, 0⟩),
  (10, ⟨2, false, 1, 16, .str ⟨#[]⟩, [], [], 0, 0⟩),
  (11, ⟨2, false, 1, 16, .str ⟨#[]⟩, [], [], 0, 0⟩),
  (15, ⟨6, false, 1, 8, .nilp, [], [], 0, 0⟩),
  (16, ⟨6, false, 1, 8, .nilp, [], [], 0, 0⟩),
  (17, ⟨6, false, 1, 8, .nilp, [], [], 0, 0⟩),
  (18, ⟨3, true, 1, 8, .agg [.nilp], [(0, 1)], [17], 0, 0⟩),
  (19, ⟨3, true, 1, 8, .agg [.nilp], [(0, 1)], [17], 0, 0⟩),
  (22, ⟨5, false, 1, 24, .nils, [], [], 0, 62⟩),
  (23, ⟨5, false, 1, 24, .nils, [], [], 0, 59⟩),
  (24, ⟨5, false, 1, 24, .nils, [], [], 0, 53⟩),
  (25, ⟨3, true, 3, 72, .agg [.nils, .nils, .nils], [(0, 1), (1, 1), (2, 1)], [22, 23, 24], 0, 0⟩),
  (26, ⟨3, true, 3, 72, .agg [.nils, .nils, .nils], [(0, 1), (1, 1), (2, 1)], [22, 23, 24], 0, 0⟩),
  (27, ⟨3, true, 2, 16, .agg [.int .i64 (0), .int .i64 (0)], [(0, 1), (1, 1)], [3, 3], 0, 0⟩),
  (28, ⟨3, true, 2, 16, .agg [.int .i64 (0), .int .i64 (0)], [(0, 1), (1, 1)], [3, 3], 0, 0⟩),
  (29, ⟨0, false, 1, 8, .int .i64 (0), [], [], 0, 0⟩),
  (31, ⟨7, false, 1, 8, .nilf, [], [], 0, 0⟩),
  (33, ⟨7, false, 1, 8, .nilf, [], [], 0, 0⟩),
  (34, ⟨7, false, 1, 8, .nilf, [], [], 0, 0⟩),
  (35, ⟨7, false, 1, 8, .nilf, [], [], 0, 0⟩),
  (36, ⟨5, false, 1, 24, .nils, [], [], 0, 3⟩),
  (37, ⟨3, true, 5, 88, .agg [.nils, .nils, .nils, .int .i64 (0), .int .i64 (0)], [(0, 1), (1, 1), (2, 1), (3, 1), (4, 1)], [36, 36, 36, 3, 3], 0, 0⟩),
  (38, ⟨3, true, 5, 88, .agg [.nils, .nils, .nils, .int .i64 (0), .int .i64 (0)], [(0, 1), (1, 1), (2, 1), (3, 1), (4, 1)], [36, 36, 36, 3, 3], 0, 0⟩),
  (39, ⟨7, false, 1, 8, .nilf, [], [], 0, 0⟩),
  (40, ⟨7, false, 1, 8, .nilf, [], [], 0, 0⟩),
  (41, ⟨7, false, 1, 8, .nilf, [], [], 0, 0⟩),
  (43, ⟨7, false, 1, 8, .nilf, [], [], 0, 0⟩),
  (45, ⟨7, false, 1, 8, .nilf, [], [], 0, 0⟩),
  (46, ⟨7, false, 1, 8, .nilf, [], [], 0, 0⟩),
  (47, ⟨7, false, 1, 8, .nilf, [], [], 0, 0⟩),
  (48, ⟨7, false, 1, 8, .nilf, [], [], 0, 0⟩),
  (49, ⟨7, false, 1, 8, .nilf, [], [], 0, 0⟩),
  (50, ⟨7, false, 1, 8, .nilf, [], [], 0, 0⟩),
  (51, ⟨7, false, 1, 8, .nilf, [], [], 0, 0⟩),
  (52, ⟨3, true, 2, 16, .agg [.int .i64 (0), .int .i64 (0)], [(0, 1), (1, 1)], [3, 3], 0, 0⟩),
  (53, ⟨3, true, 2, 16, .agg [.int .i64 (0), .int .i64 (0)], [(0, 1), (1, 1)], [3, 3], 0, 0⟩),
  (54, ⟨7, false, 1, 8, .nilf, [], [], 0, 0⟩),
  (55, ⟨7, false, 1, 8, .nilf, [], [], 0, 0⟩),
  (56, ⟨7, false, 1, 8, .nilf, [], [], 0, 0⟩),
  (57, ⟨7, false, 1, 8, .nilf, [], [], 0, 0⟩),
  (58, ⟨3, true, 3, 24, .agg [.int .i64 (0), .int .i64 (0), .int .i64 (0)], [(0, 2), (2, 1)], [28, 3], 0, 0⟩),
  (59, ⟨3, true, 3, 24, .agg [.int .i64 (0), .int .i64 (0), .int .i64 (0)], [(0, 2), (2, 1)], [28, 3], 0, 0⟩),
  (60, ⟨7, false, 1, 8, .nilf, [], [], 0, 0⟩),
  (61, ⟨3, true, 2, 16, .agg [.int .i64 (0), .int .i64 (0)], [(0, 1), (1, 1)], [3, 3], 0, 0⟩),
  (62, ⟨3, true, 2, 16, .agg [.int .i64 (0), .int .i64 (0)], [(0, 1), (1, 1)], [3, 3], 0, 0⟩),
  (63, ⟨7, false, 1, 8, .nilf, [], [], 0, 0⟩),
  (64, ⟨7, false, 1, 8, .nilf, [], [], 0, 0⟩),
  (65, ⟨7, false, 1, 8, .nilf, [], [], 0, 0⟩),
  (66, ⟨7, false, 1, 8, .nilf, [], [], 0, 0⟩),
  (67, ⟨4, true, 2, 16, .agg [.int .i64 (0), .int .i64 (0)], [], [], 2, 3⟩),
  (68, ⟨6, false, 1, 8, .nilp, [], [], 0, 0⟩),
  (69, ⟨7, false, 1, 8, .nilf, [], [], 0, 0⟩),
  (70, ⟨6, false, 1, 8, .nilp, [], [], 0, 0⟩),
  (71, ⟨5, false, 1, 24, .nils, [], [], 0, 86⟩),
  (72, ⟨8, false, 1, 8, .nilm, [], [], 81, 3⟩),
  (73, ⟨4, true, 5, 40, .agg [.nilm, .nilm, .nilm, .nilm, .nilm], [], [], 5, 72⟩),
  (74, ⟨3, true, 7, 72, .agg [.nilp, .nils, .nilm, .nilm, .nilm, .nilm, .nilm], [(0, 1), (1, 1), (2, 5)], [70, 71, 73], 0, 0⟩),
  (75, ⟨3, true, 7, 72, .agg [.nilp, .nils, .nilm, .nilm, .nilm, .nilm, .nilm], [(0, 1), (1, 1), (2, 5)], [70, 71, 73], 0, 0⟩),
  (77, ⟨7, false, 1, 8, .nilf, [], [], 0, 0⟩),
  (78, ⟨7, false, 1, 8, .nilf, [], [], 0, 0⟩),
  (79, ⟨4, true, 5, 40, .agg [.int .i64 (0), .int .i64 (0), .int .i64 (0), .int .i64 (0), .int .i64 (0)], [], [], 5, 3⟩),
  (80, ⟨3, true, 2, 16, .agg [.int .i64 (0), .int .i64 (0)], [(0, 1), (1, 1)], [3, 3], 0, 0⟩),
  (81, ⟨3, true, 2, 16, .agg [.int .i64 (0), .int .i64 (0)], [(0, 1), (1, 1)], [3, 3], 0, 0⟩),
  (82, ⟨4, true, 10, 80, .agg [.int .i64 (0), .int .i64 (0), .int .i64 (0), .int .i64 (0), .int .i64 (0), .int .i64 (0), .int .i64 (0), .int .i64 (0), .int .i64 (0), .int .i64 (0)], [], [], 5, 81⟩),
  (83, ⟨4, true, 4, 32, .agg [.int .i64 (0), .int .i64 (0), .int .i64 (0), .int .i64 (0)], [], [], 4, 3⟩),
  (84, ⟨4, true, 4, 32, .agg [.int .i64 (0), .int .i64 (0), .int .i64 (0), .int .i64 (0)], [], [], 4, 3⟩),
  (85, ⟨3, true, 28, 224, .agg [.int .i64 (0), .int .i64 (0), .int .i64 (0), .int .i64 (0), .int .i64 (0), .int .i64 (0), .int .i64 (0), .int .i64 (0), .int .i64 (0), .int .i64 (0), .int .i64 (0), .int .i64 (0), .int .i64 (0), .int .i64 (0), .int .i64 (0), .int .i64 (0), .int .i64 (0), .int .i64 (0), .int .i64 (0), .int .i64 (0), .int .i64 (0), .int .i64 (0), .int .i64 (0), .int .i64 (0), .int .i64 (0), .int .i64 (0), .int .i64 (0), .int .i64 (0)], [(0, 5), (5, 5), (10, 10), (20, 4), (24, 4)], [79, 79, 82, 84, 84], 0, 0⟩),
  (86, ⟨3, true, 28, 224, .agg [.int .i64 (0), .int .i64 (0), .int .i64 (0), .int .i64 (0), .int .i64 (0), .int .i64 (0), .int .i64 (0), .int .i64 (0), .int .i64 (0), .int .i64 (0), .int .i64 (0), .int .i64 (0), .int .i64 (0), .int .i64 (0), .int .i64 (0), .int .i64 (0), .int .i64 (0), .int .i64 (0), .int .i64 (0), .int .i64 (0), .int .i64 (0), .int .i64 (0), .int .i64 (0), .int .i64 (0), .int .i64 (0), .int .i64 (0), .int .i64 (0), .int .i64 (0)], [(0, 5), (5, 5), (10, 10), (20, 4), (24, 4)], [79, 79, 82, 84, 84], 0, 0⟩),
  (87, ⟨7, false, 1, 8, .nilf, [], [], 0, 0⟩),
  (88, ⟨7, false, 1, 8, .nilf, [], [], 0, 0⟩),
  (90, ⟨7, false, 1, 8, .nilf, [], [], 0, 0⟩),
  (91, ⟨7, false, 1, 8, .nilf, [], [], 0, 0⟩),
  (92, ⟨7, false, 1, 8, .nilf, [], [], 0, 0⟩),
  (93, ⟨7, false, 1, 8, .nilf, [], [], 0, 0⟩),
  (94, ⟨7, false, 1, 8, .nilf, [], [], 0, 0⟩),
  (95, ⟨7, false, 1, 8, .nilf, [], [], 0, 0⟩),
  (96, ⟨5, false, 1, 24, .nils, [], [], 0, 124⟩),
  (98, ⟨7, false, 1, 8, .nilf, [], [], 0, 0⟩),
  (99, ⟨7, false, 1, 8, .nilf, [], [], 0, 0⟩),
  (100, ⟨7, false, 1, 8, .nilf, [], [], 0, 0⟩),
  (101, ⟨7, false, 1, 8, .nilf, [], [], 0, 0⟩),
  (102, ⟨7, false, 1, 8, .nilf, [], [], 0, 0⟩),
  (103, ⟨7, false, 1, 8, .nilf, [], [], 0, 0⟩),
  (104, ⟨7, false, 1, 8, .nilf, [], [], 0, 0⟩),
  (105, ⟨7, false, 1, 8, .nilf, [], [], 0, 0⟩),
  (106, ⟨7, false, 1, 8, .nilf, [], [], 0, 0⟩),
  (107, ⟨7, false, 1, 8, .nilf, [], [], 0, 0⟩),
  (108, ⟨7, false, 1, 8, .nilf, [], [], 0, 0⟩),
  (109, ⟨7, false, 1, 8, .nilf, [], [], 0, 0⟩),
  (110, ⟨7, false, 1, 8, .nilf, [], [], 0, 0⟩),
  (111, ⟨7, false, 1, 8, .nilf, [], [], 0, 0⟩),
  (112, ⟨7, false, 1, 8, .nilf, [], [], 0, 0⟩),
  (113, ⟨7, false, 1, 8, .nilf, [], [], 0, 0⟩),
  (114, ⟨3, true, 2, 16, .agg [.int .i64 (0), .int .i64 (0)], [(0, 1), (1, 1)], [3, 3], 0, 0⟩),
  (115, ⟨7, false, 1, 8, .nilf, [], [], 0, 0⟩),
  (116, ⟨7, false, 1, 8, .nilf, [], [], 0, 0⟩),
  (117, ⟨3, true, 4, 80, .agg [.nils, .nils, .nils, .nilf], [(0, 3), (3, 1)], [26, 41], 0, 0⟩),
  (118, ⟨3, true, 4, 80, .agg [.nils, .nils, .nils, .nilf], [(0, 3), (3, 1)], [26, 41], 0, 0⟩),
  (119, ⟨7, false, 1, 8, .nilf, [], [], 0, 0⟩),
  (120, ⟨3, true, 3, 40, .agg [.nils, .int .i64 (0), .int .i64 (0)], [(0, 1), (1, 1), (2, 1)], [36, 3, 3], 0, 0⟩),
  (121, ⟨3, true, 3, 40, .agg [.nils, .int .i64 (0), .int .i64 (0)], [(0, 1), (1, 1), (2, 1)], [36, 3, 3], 0, 0⟩),
  (122, ⟨7, false, 1, 8, .nilf, [], [], 0, 0⟩),
  (123, ⟨3, true, 2, 48, .agg [.nils, .nils], [(0, 1), (1, 1)], [36, 36], 0, 0⟩),
  (124, ⟨3, true, 2, 48, .agg [.nils, .nils], [(0, 1), (1, 1)], [36, 36], 0, 0⟩),
  (125, ⟨7, false, 1, 8, .nilf, [], [], 0, 0⟩),
  (126, ⟨7, false, 1, 8, .nilf, [], [], 0, 0⟩),
  (127, ⟨7, false, 1, 8, .nilf, [], [], 0, 0⟩),
  (128, ⟨7, false, 1, 8, .nilf, [], [], 0, 0⟩),
  (129, ⟨7, false, 1, 8, .nilf, [], [], 0, 0⟩),
  (130, ⟨7, false, 1, 8, .nilf, [], [], 0, 0⟩),
  (131, ⟨7, false, 1, 8, .nilf, [], [], 0, 0⟩),
  (132, ⟨7, false, 1, 8, .nilf, [], [], 0, 0⟩),
  (133, ⟨7, false, 1, 8, .nilf, [], [], 0, 0⟩),
  (134, ⟨7, false, 1, 8, .nilf, [], [], 0, 0⟩),
  (135, ⟨7, false, 1, 8, .nilf, [], [], 0, 0⟩),
  (136, ⟨7, false, 1, 8, .nilf, [], [], 0, 0⟩),
  (137, ⟨3, true, 2, 16, .agg [.nilf, .int .i64 (0)], [(0, 1), (1, 1)], [136, 3], 0, 0⟩),
  (138, ⟨3, true, 2, 16, .agg [.nilf, .int .i64 (0)], [(0, 1), (1, 1)], [136, 3], 0, 0⟩),
  (139, ⟨4, true, 6, 48, .agg [.nilf, .int .i64 (0), .nilf, .int .i64 (0), .nilf, .int .i64 (0)], [], [], 3, 138⟩),
  (140, ⟨7, false, 1, 8, .nilf, [], [], 0, 0⟩),
  (141, ⟨7, false, 1, 8, .nilf, [], [], 0, 0⟩),
  (142, ⟨6, false, 1, 8, .nilp, [], [], 0, 0⟩),
  (143, ⟨6, false, 1, 8, .nilp, [], [], 0, 0⟩),
  (144, ⟨7, false, 1, 8, .nilf, [], [], 0, 0⟩),
  (145, ⟨7, false, 1, 8, .nilf, [], [], 0, 0⟩),
  (146, ⟨7, false, 1, 8, .nilf, [], [], 0, 0⟩),
  (147, ⟨7, false, 1, 8, .nilf, [], [], 0, 0⟩),
  (148, ⟨7, false, 1, 8, .nilf, [], [], 0, 0⟩),
  (149, ⟨7, false, 1, 8, .nilf, [], [], 0, 0⟩),
  (150, ⟨7, false, 1, 8, .nilf, [], [], 0, 0⟩),
  (151, ⟨3, true, 2, 16, .agg [.int .i64 (0), .int .i64 (0)], [(0, 1), (1, 1)], [3, 3], 0, 0⟩),
  (152, ⟨7, false, 1, 8, .nilf, [], [], 0, 0⟩),
  (153, ⟨7, false, 1, 8, .nilf, [], [], 0, 0⟩),
  (154, ⟨7, false, 1, 8, .nilf, [], [], 0, 0⟩),
  (155, ⟨3, true, 4, 40, .agg [.nilp, .nilp, .nilp, .str ⟨#[]⟩], [(0, 1), (1, 1), (2, 1), (3, 1)], [17, 17, 17, 9], 0, 0⟩),
  (156, ⟨3, true, 4, 40, .agg [.nilp, .nilp, .nilp, .str ⟨#[]⟩], [(0, 1), (1, 1), (2, 1), (3, 1)], [17, 17, 17, 9], 0, 0⟩),
  (157, ⟨4, true, 0, 0, .agg [], [], [], 0, 16⟩),
  (158, ⟨3, true, 0, 0, .agg [], [(0, 0)], [157], 0, 0⟩),
  (159, ⟨3, true, 0, 0, .agg [], [(0, 0)], [157], 0, 0⟩),
  (160, ⟨7, false, 1, 8, .nilf, [], [], 0, 0⟩),
  (164, ⟨7, false, 1, 8, .nilf, [], [], 0, 0⟩),
  (165, ⟨6, false, 1, 8, .nilp, [], [], 0, 0⟩)]
instance : Tab Try.prog := ⟨tyL, by kernel_rfl⟩
instance : PG Try.prog 0 := ⟨by kernel_rfl, by kernel_rfl⟩
def un4_4 : List (List Nat × Bool) := [([], false), ([0], false), ([], false), ([0, 1, 2], false), ([0, 1, 2, 3], false), ([0, 1, 2, 3], false), ([0, 1, 2, 3], false), ([], false), ([0, 1, 2, 3, 4, 5, 6, 7], false), ([], true), ([], true)]
def un4_10 : List (List Nat × Bool) := [([], true), ([], true), ([], true), ([], true), ([], true), ([], true), ([], true), ([], true), ([], true), ([], true), ([], true), ([], true), ([], true), ([], true), ([], true), ([], true), ([], true), ([], true), ([], true), ([], true), ([], true), ([], true), ([], true), ([], true), ([], true), ([], true), ([], true), ([], true), ([], true), ([28], true), ([28], true), ([28, 29, 30], true), ([28], true), ([28], true), ([], true), ([], true), ([], true), ([], true), ([], true), ([38], true), ([38], true), ([38, 39, 40], true), ([38], true), ([38], true), ([], true), ([], true), ([], true), ([], true), ([], true), ([], true), ([], true), ([], true), ([], true), ([], true), ([53], true), ([53], true), ([53, 54, 55], true), ([53], true), ([53], true), ([], true), ([], true), ([], true)]
def un4_18 : List (List Nat × Bool) := [([], true), ([], true), ([], true), ([], true), ([3], true), ([3], true), ([3], true), ([3], true), ([], true), ([], true), ([], true), ([], true), ([], true), ([11, 12], true), ([], true), ([], true), ([11, 12, 13, 14, 15], true), ([11, 12, 13, 14, 15], true), ([11, 12, 13, 14, 15], true), ([], true), ([], true), ([], true)]
def un4_23 : List (List Nat × Bool) := [([], true), ([], true), ([0, 1], true), ([], true), ([], true), ([0, 1, 2, 3, 4], true), ([0, 1, 2, 3, 4], true), ([0, 1, 2, 3, 4], true), ([], true), ([], true), ([], true), ([], true), ([], true), ([], true), ([13], true), ([], true), ([], true), ([], true)]
def un5_4 : List (List Nat × Bool) := [([], false), ([0], false), ([0], false), ([], true), ([0, 1, 2, 3], false), ([0, 1, 2, 3], false), ([], true), ([], true), ([], true)]
def un7_4 : List (List Nat × Bool) := [([], false), ([0], false), ([0, 1], false), ([0, 1, 2], false), ([0, 1, 2, 3], false), ([0, 1, 2, 3, 4], false), ([1, 2], true), ([2], true), ([], true)]
def un7_10 : List (List Nat × Bool) := [([], false), ([], false), ([0, 1], true), ([0, 1], true), ([0, 1, 2, 3], true), ([0, 1], true), ([0, 1], true), ([0, 1], true), ([0, 1, 2, 3, 4, 5, 6, 7], false), ([0, 1, 2, 3, 4, 5, 6, 7], false), ([0, 1, 2, 3, 4, 5, 6, 7, 8, 9], false), ([0, 1, 2, 3, 4, 5, 6, 7], false), ([0, 1, 2, 3, 4, 5, 6, 7], false), ([0, 1, 2, 3, 4, 5, 6, 7], false), ([0, 1], true), ([0, 1], true), ([], true), ([], true), ([], true)]
def un7_11 : List (List Nat × Bool) := [([], false), ([], false), ([0, 1], true), ([0, 1, 2], true), ([0, 1, 2], true), ([0, 1, 2, 3, 4], true), ([0, 1, 2], true), ([0, 1, 2], true), ([0, 1, 2], true), ([0, 1, 2], true), ([0, 1, 2], true), ([0, 1], true), ([0, 1], true), ([], true), ([], true), ([], true)]
def un7_27 : List (List Nat × Bool) := [([], true), ([], true), ([], true), ([], true), ([], true), ([], true), ([], true), ([], true), ([], true), ([], true), ([], true), ([], true), ([], true), ([], true), ([], true), ([], true), ([], true), ([], true), ([], true), ([], false), ([19], true), ([19], true), ([19], true), ([], true), ([], true), ([], true), ([], false), ([26], true), ([26], true), ([26], true), ([], true), ([], true), ([], true), ([], false), ([33], true), ([33], true), ([], true), ([], true), ([], true), ([], false), ([39], true), ([], true), ([], true), ([], true), ([], false), ([44], true), ([], true), ([], true), ([], true), ([], true), ([], true), ([], true)]
def un8_14 : List (List Nat × Bool) := [([], false), ([0], false), ([0], false), ([0, 1, 2], false), ([0, 1, 2], false), ([0, 1, 2, 3, 4], false), ([0, 1, 2], false), ([], false), ([0, 1, 2, 3, 4, 5, 6, 7], false), ([], true)]
def un8_15 : List (List Nat × Bool) := [([], true), ([], true), ([], true), ([], true), ([], true), ([], true), ([], true), ([], true), ([], true), ([7, 8], true), ([7, 8], true), ([7, 8], true), ([7, 8], true), ([], true), ([], true), ([7, 8, 9, 10, 11, 12, 13, 14], true), ([7, 8, 9, 10, 11, 12, 13, 14], true), ([], true), ([], true), ([], true), ([], true), ([], true), ([], true)]
def un9_6 : List (List Nat × Bool) := [([], false), ([], false), ([], false), ([], false), ([0, 1, 2, 3], true), ([0, 1, 2, 3, 4], true), ([0, 1, 2, 3, 4], true), ([0, 1, 2, 3, 4], true), ([0, 1, 2, 3], true), ([], true), ([], true)]
def un10_3 : List (List Nat × Bool) := [([], false), ([0], false), ([0], false), ([0, 1, 2], false), ([0, 1, 2], false), ([0, 1, 2], false), ([0], false), ([0, 1, 2, 3, 4, 5, 6], false), ([0, 1, 2, 3, 4, 5, 6], false), ([0, 1, 2, 3, 4, 5, 6, 7, 8], false), ([0, 1, 2, 3, 4, 5, 6, 7, 8], false), ([0, 1, 2, 3, 4, 5, 6, 7, 8], false), ([0], false), ([0, 1, 2, 3, 4, 5, 6, 7, 8, 9, 10, 11, 12], false), ([], true), ([], true), ([], true)]
def un10_9 : List (List Nat × Bool) := [([], true), ([0], true), ([0], true), ([0], true), ([0], true), ([0, 1, 2, 3, 4], true), ([0, 1, 2, 3, 4], true), ([0, 1, 2, 3, 4], true), ([0, 1, 2, 3, 4], true), ([0, 1, 2, 3, 4], true), ([0], true), ([], true), ([], true), ([], true)]
def un21_6 : List (List Nat × Bool) := [([], true), ([], true), ([], true), ([], true), ([], true), ([], true), ([], true), ([], true), ([], true), ([], true), ([], true), ([], true), ([], true), ([], true), ([], true), ([], true), ([], true), ([], true), ([], true), ([], false), ([19], true), ([], true), ([], true), ([], true), ([], false), ([24], true), ([], true), ([], true), ([], true), ([], true), ([], true), ([], true), ([], true), ([], true), ([], true), ([], true), ([], true), ([], true), ([], true), ([], true)]
def un21_14 : List (List Nat × Bool) := [([], true), ([], true), ([], true), ([], true), ([], true), ([], true), ([], true), ([], true), ([], true), ([], true), ([], true), ([], true), ([], true), ([], true), ([], true), ([], true), ([], true), ([], true), ([], true), ([], true), ([], true), ([], true), ([], true), ([], false), ([23], true), ([], true), ([], true), ([], true), ([], false), ([28], true), ([], true), ([], true), ([], true), ([], true), ([], true), ([], true), ([], true), ([], true), ([], true), ([], true), ([], false), ([40], true), ([], true), ([], true), ([], true), ([], true), ([], true), ([], true)]
def un22_9 : List (List Nat × Bool) := [([], true), ([], true), ([0, 1], true), ([], true), ([], true), ([], true), ([0, 1, 2, 3, 4, 5], true), ([0, 1, 2, 3, 4, 5], true), ([0, 1, 2, 3, 4, 5], true), ([0, 1, 2, 3, 4, 5], true), ([], true), ([], true), ([], true), ([], true), ([12, 13], true), ([], true), ([], true), ([], true), ([12, 13, 14, 15, 16, 17], true), ([12, 13, 14, 15, 16, 17], true), ([12, 13, 14, 15, 16, 17], true), ([], true), ([], true), ([], true)]
def un23_5 : List (List Nat × Bool) := [([], false), ([], false), ([0, 1], false), ([0, 1], false), ([0, 1, 2, 3], false), ([0, 1], false), ([0, 1], false), ([0, 1], false), ([0, 1, 2, 3, 4, 5, 6, 7], true), ([0, 1, 2, 3, 4, 5, 6, 7, 8], true), ([0, 1, 2, 3, 4, 5, 6, 7], true), ([0, 1], true), ([0, 1], true), ([], true), ([], true), ([], true)]
def un23_6 : List (List Nat × Bool) := [([], false), ([], false), ([0, 1], true), ([0, 1], true), ([0, 1, 2, 3], true), ([0, 1], true), ([0, 1], true), ([0, 1], true), ([0, 1], true), ([0, 1, 2, 3, 4, 5, 6, 7, 8], false), ([0, 1, 2, 3, 4, 5, 6, 7, 8, 9], false), ([0, 1, 2, 3, 4, 5, 6, 7, 8, 9], false), ([0, 1], true), ([0, 1], true), ([0, 1], true), ([], true), ([], true), ([], true)]
def un24_7 : List (List Nat × Bool) := [([], false), ([], false), ([0, 1], true), ([0, 1, 2], true), ([0, 1, 2], true), ([0, 1, 2, 3, 4], true), ([0, 1, 2], true), ([0, 1, 2], true), ([0, 1], true), ([0, 1], true), ([], true), ([], true), ([], true)]
def un28_1 : List (List Nat × Bool) := [([], false), ([0], false), ([0, 1], false), ([0], false), ([], false), ([], false), ([], false), ([6], false), ([0, 1, 2, 3, 4, 5, 6, 7], false), ([7], true), ([], true)]
def un29_1 : List (List Nat × Bool) := [([], false), ([0], false), ([0, 1], false), ([0], false), ([], false), ([], false), ([], false), ([6], false), ([0, 1, 2, 3, 4, 5, 6, 7], false), ([7], true), ([], true)]
def un30_1 : List (List Nat × Bool) := [([], false), ([0], false), ([0, 1], false), ([0], false), ([], false), ([], false), ([], false), ([6], false), ([0, 1, 2, 3, 4, 5, 6, 7], false), ([7], true), ([], true)]
def un34_1 : List (List Nat × Bool) := [([], false), ([0], false), ([0, 1], false), ([0], false), ([], false), ([], false), ([], false), ([6], false), ([0, 1, 2, 3, 4, 5, 6, 7], false), ([7], true), ([], true)]
def un37_7 : List (List Nat × Bool) := [([], true), ([], true), ([0, 1], true), ([0, 1], true), ([0, 1, 2, 3], true), ([0, 1], true), ([0, 1], true), ([0, 1], true), ([], true), ([0, 1, 2, 3, 4, 5, 6, 7, 8], true), ([], true), ([], true)]
def un37_9 : List (List Nat × Bool) := [([], true), ([], true), ([0, 1], true), ([0, 1], true), ([0, 1, 2, 3], true), ([0, 1], true), ([0, 1], true), ([0, 1], true), ([], true), ([0, 1, 2, 3, 4, 5, 6, 7, 8], true), ([], true), ([], true)]
def un43_4 : List (List Nat × Bool) := [([], true), ([], true), ([], true), ([0, 1, 2], true), ([0, 1, 2], true), ([], true), ([], true), ([], true)]
def un44_8 : List (List Nat × Bool) := [([], false), ([0], false), ([0, 1], false), ([0], false), ([0], false), ([], false), ([0, 1, 2, 3, 4, 5], false), ([], true)]
def un44_9 : List (List Nat × Bool) := [([], false), ([0], false), ([0], false), ([0], false), ([], true), ([0, 1, 2, 3, 4], false), ([0, 1, 2, 3, 4, 5], false), ([0, 1, 2, 3, 4, 5], false), ([0, 1, 2, 3, 4, 5], false), ([], true), ([], true), ([], true)]
def un47_1 : List (List Nat × Bool) := [([], false), ([0], false), ([], false), ([], false), ([0, 1, 2, 3], true), ([0, 1, 2, 3], true), ([0, 1, 2, 3], true), ([], true), ([0, 1, 2, 3, 4, 5, 6, 7], false), ([0, 1, 2, 3, 4, 5, 6, 7], false), ([0, 1, 2, 3, 4, 5, 6, 7], false), ([], true), ([], true)]
def un48_11 : List (List Nat × Bool) := [([], false), ([0], true), ([0, 1], true), ([0, 1, 2], true), ([0, 1], true), ([0, 1], true), ([0], true), ([0], true), ([0, 1, 2, 3, 4, 5, 6, 7], false), ([0], true), ([0], true), ([0], true), ([], true), ([], true)]
def un49_1 : List (List Nat × Bool) := [([], false), ([0], false), ([], false), ([], false), ([0, 1, 2, 3], true), ([0, 1, 2, 3], true), ([0, 1, 2, 3], true), ([], true), ([], true), ([], true)]
def un50_5 : List (List Nat × Bool) := [([], false), ([0], true), ([0], true), ([0, 1, 2], true), ([0], true), ([], true), ([], true)]
def un52_5 : List (List Nat × Bool) := [([], false), ([0], false), ([], false), ([], false), ([], false), ([0, 1, 2, 3, 4], false), ([0, 1, 2, 3, 4, 5], false), ([0, 1, 2, 3, 4, 5, 6], false), ([0, 1, 2, 3, 4, 5], false), ([0, 1, 2, 3, 4, 5], false), ([0, 1, 2, 3, 4, 5], false), ([0, 1, 2, 3, 4], true), ([], false), ([0, 1, 2, 3, 4, 5, 6, 7, 8, 9, 10, 11, 12], false), ([], true)]
def un52_8 : List (List Nat × Bool) := [([], false), ([0], true), ([0, 1], true), ([0], true), ([0], true), ([0, 1, 2, 3, 4], false), ([0, 1, 2, 3, 4], false), ([0, 1, 2, 3, 4], false), ([0, 1, 2, 3, 4], false), ([0], true), ([0], true), ([], true), ([], true)]
def un58_5 : List (List Nat × Bool) := [([], true), ([0], true), ([], true), ([], true), ([0, 1, 2, 3], true), ([0, 1, 2, 3, 4], true), ([0, 1, 2, 3], true), ([0, 1, 2, 3], true), ([], true), ([], true)]
def un61_1 : List (List Nat × Bool) := [([], false), ([], false), ([0, 1], true), ([0, 1, 2], true), ([0, 1, 2], true), ([0, 1, 2, 3, 4], true), ([0, 1, 2, 3, 4], true), ([0, 1, 2], true), ([0, 1, 2], true), ([0, 1], true), ([], true), ([], true)]
def un73_1 : List (List Nat × Bool) := [([], true), ([], true), ([0, 1], true), ([], true), ([], true), ([], true), ([0, 1, 2, 3, 4, 5], true), ([0, 1, 2, 3, 4, 5], true), ([], true), ([], true)]
def un75_1 : List (List Nat × Bool) := [([], false), ([0], false), ([0], false), ([0], false), ([0], false), ([0, 1, 2, 3, 4], true), ([0, 1, 2, 3, 4], true), ([0], true), ([], true), ([], true), ([], true)]
def un75_5 : List (List Nat × Bool) := [([], true), ([0], true), ([1], true), ([1], true), ([], true), ([], true), ([0, 1, 2, 3, 4, 5], true), ([0, 1, 2, 3, 4, 5, 6], true), ([0, 1, 2, 3, 4, 5], true), ([0, 1, 2, 3, 4, 5], true), ([], false), ([], false), ([10, 11], true), ([10, 11], true), ([], true)]
def un77_9 : List (List Nat × Bool) := [([], true), ([], true), ([0, 1], true), ([0, 1], true), ([], true), ([0, 1, 2, 3, 4], true), ([0, 1, 2, 3, 4], true), ([], true), ([], true)]
def un77_16 : List (List Nat × Bool) := [([], true), ([], true), ([0, 1], true), ([0, 1], true), ([], true), ([0, 1, 2, 3, 4], true), ([], true), ([], true)]
def un78_5 : List (List Nat × Bool) := [([], false), ([0], true), ([0, 1], true), ([0], true), ([0], true), ([0], true), ([], true), ([], true)]
def un82_13 : List (List Nat × Bool) := [([], true), ([0], true), ([0], true), ([0, 1, 2], true), ([0], true), ([0], true), ([], true), ([], true)]
def un83_6 : List (List Nat × Bool) := [([], false), ([0], true), ([0, 1], true), ([0, 1, 2], true), ([0, 1], true), ([0, 1], true), ([0], true), ([0, 1, 2, 3, 4, 5, 6], false), ([], true)]
def un96_1 : List (List Nat × Bool) := [([], false), ([0], true), ([0], true), ([], true)]
def un96_2 : List (List Nat × Bool) := [([], true), ([0], true), ([0, 1], true), ([1, 2], true), ([1, 2], true), ([], true), ([], true)]
def un96_3 : List (List Nat × Bool) := [([], true), ([0], true), ([0], true), ([1, 2], true), ([1, 2], true), ([], true), ([], true), ([0, 1, 2, 3, 4, 5, 6], true), ([0, 1, 2, 3, 4, 5, 6, 7], true), ([0, 1, 2, 3, 4, 5, 6, 7], true), ([0, 1, 2, 3, 4, 5, 6, 8, 9], true), ([0, 1, 2, 3, 4, 5, 6, 8, 9], true), ([0, 1, 2, 3, 4, 5, 6], true), ([0, 1, 2, 3, 4, 5, 6], true), ([], true)]
def un96_4 : List (List Nat × Bool) := [([], true), ([0], true), ([0], true), ([1, 2], true), ([1, 2], true), ([], true), ([], true), ([], true), ([1, 2, 3, 4, 5, 6, 7], true), ([1, 2, 3, 4, 5, 6, 7], true), ([], true), ([], true)]
def un96_5 : List (List Nat × Bool) := [([], false), ([0], false), ([0], false), ([0], false), ([0], false), ([0, 1, 2, 3, 4], false), ([0, 1, 2, 3, 4, 5], false), ([0, 1, 2, 3, 4, 5, 6], false), ([0, 1, 2, 3, 4, 5, 7], false), ([0, 1, 2, 3, 4, 5, 7], false), ([0, 1, 2, 3, 4, 5], false), ([0, 1, 2, 3, 4, 5], false), ([], false), ([], false), ([0, 1, 2, 3, 4, 5, 6, 7, 8, 9, 10, 11, 12, 13], false), ([], true)]
def un96_6 : List (List Nat × Bool) := [([], true), ([0], true), ([0], true), ([1, 2], true), ([1, 2], true), ([], true), ([], true), ([0, 1, 2, 3, 4, 5, 6], true), ([0, 1, 2, 3, 4, 5, 6], true), ([], true), ([1, 2, 3, 4, 5, 6, 7, 8, 9], true), ([1, 2, 3, 4, 5, 6, 7, 8, 9], true), ([], true), ([], true)]
def un96_7 : List (List Nat × Bool) := [([], false), ([0], false), ([0, 1], true), ([0, 1], true), ([0, 1, 2, 3], true), ([0, 1, 2, 3], true), ([0, 1, 2, 3], true), ([0, 1, 2, 3], true), ([0, 1, 2, 3], true), ([0, 1, 2, 3, 4, 5, 6, 7, 8], true), ([0, 1, 2, 3, 4, 5, 6, 7, 8], true), ([0, 1, 2, 3], true), ([0, 1, 2, 3], true), ([0, 1, 2, 3, 4, 5, 6, 7, 8, 9, 10, 11, 12], true), ([0, 1, 2, 3, 4, 5, 6, 7, 8, 9, 10, 11, 12, 13], true), ([0, 1, 2, 3, 4, 5, 6, 7, 8, 9, 10, 11, 12, 13, 14], true), ([0, 1, 2, 3, 4, 5, 6, 7, 8, 9, 10, 11, 12, 13, 15], true), ([0, 1, 2, 3, 4, 5, 6, 7, 8, 9, 10, 11, 12, 13, 15], true), ([0, 1, 2, 3, 4, 5, 6, 7, 8, 9, 10, 11, 12, 13], true), ([0, 1, 2, 3, 4, 5, 6, 7, 8, 9, 10, 11, 12, 13], true), ([0, 1], true), ([1, 2, 3, 4, 5, 6, 7, 8, 9, 10, 11, 12, 13, 14, 15, 16, 17, 18, 19, 20], false), ([1, 2, 3, 4, 5, 6, 7, 8, 9, 10, 11, 12, 13, 14, 15, 16, 17, 18, 19, 20], false), ([], true), ([], true)]
def un101_13 : List (List Nat × Bool) := [([], false), ([0], false), ([0, 1], true), ([0, 1], true), ([0, 1, 2, 3], true), ([0, 1], true), ([0, 1, 2, 3, 4, 5], false), ([0, 1, 2, 3, 4, 5], false), ([0, 1, 2, 3, 4, 5, 6, 7], false), ([0, 1], true), ([0, 1], true), ([0], true), ([], true), ([], true)]
def un102_5 : List (List Nat × Bool) := [([], true), ([0], true), ([], true), ([], true), ([], true), ([], true), ([], true), ([5, 6], true), ([5, 6], true), ([], true), ([], true), ([5, 6, 7, 8, 9, 10], true), ([5, 6, 7, 8, 9, 10], true), ([], true), ([], true)]
end Go.Proofs.Ytjnckbefajfgbaa
