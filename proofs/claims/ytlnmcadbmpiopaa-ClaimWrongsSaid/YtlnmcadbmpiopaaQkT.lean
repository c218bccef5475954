/- What is known of the program's types. -/
import Derived.Test.YtlnmcadbmpiopaaQk1
import Derived.Test.YtlnmcadbmpiopaaProg
import Derived.KernelRfl
set_option linter.unusedVariables false
set_option linter.unusedSimpArgs false
namespace Go.Proofs.Ytlnmcadbmpiopaa
open Go Go.Ev
def tyL : List (Nat × Ty) := [(1, ⟨7, false, 1, 8, .nilf, [], [], 0, 0⟩),
  (2, ⟨0, false, 1, 8, .int .i64 (0), [], [], 0, 0⟩),
  (3, ⟨0, false, 1, 8, .int .i64 (0), [], [], 0, 0⟩),
  (4, ⟨1, false, 1, 1, .bool false, [], [], 0, 0⟩),
  (9, ⟨2, false, 1, 16, .str ⟨#[]⟩, [], [], 0, 0⟩),
  (10, ⟨2, false, 1, 16, .str ⟨#[]⟩, [], [], 0, 0⟩),
  (11, ⟨2, false, 1, 16, .str ⟨#[]⟩, [], [], 0, 0⟩),
  (15, ⟨6, false, 1, 8, .nilp, [], [], 0, 0⟩),
  (16, ⟨6, false, 1, 8, .nilp, [], [], 0, 0⟩),
  (17, ⟨6, false, 1, 8, .nilp, [], [], 0, 0⟩),
  (18, ⟨3, true, 1, 8, .agg [.nilp], [(0, 1)], [17], 0, 0⟩),
  (19, ⟨3, true, 1, 8, .agg [.nilp], [(0, 1)], [17], 0, 0⟩),
  (22, ⟨5, false, 1, 24, .nils, [], [], 0, 56⟩),
  (23, ⟨4, true, 3, 24, .agg [.int .i64 (0), .int .i64 (0), .int .i64 (0)], [], [], 3, 3⟩),
  (24, ⟨5, false, 1, 24, .nils, [], [], 0, 42⟩),
  (25, ⟨3, true, 7, 88, .agg [.nils, .int .i64 (0), .int .i64 (0), .int .i64 (0), .int .i64 (0), .nils, .int .i64 (0)], [(0, 1), (1, 1), (2, 3), (5, 1), (6, 1)], [22, 3, 23, 24, 3], 0, 0⟩),
  (26, ⟨3, true, 7, 88, .agg [.nils, .int .i64 (0), .int .i64 (0), .int .i64 (0), .int .i64 (0), .nils, .int .i64 (0)], [(0, 1), (1, 1), (2, 3), (5, 1), (6, 1)], [22, 3, 23, 24, 3], 0, 0⟩),
  (27, ⟨0, false, 1, 8, .int .i64 (0), [], [], 0, 0⟩),
  (29, ⟨7, false, 1, 8, .nilf, [], [], 0, 0⟩),
  (30, ⟨7, false, 1, 8, .nilf, [], [], 0, 0⟩),
  (31, ⟨3, true, 2, 16, .agg [.int .i64 (0), .int .i64 (0)], [(0, 1), (1, 1)], [3, 3], 0, 0⟩),
  (32, ⟨3, true, 2, 16, .agg [.int .i64 (0), .int .i64 (0)], [(0, 1), (1, 1)], [3, 3], 0, 0⟩),
  (34, ⟨7, false, 1, 8, .nilf, [], [], 0, 0⟩),
  (35, ⟨7, false, 1, 8, .nilf, [], [], 0, 0⟩),
  (36, ⟨7, false, 1, 8, .nilf, [], [], 0, 0⟩),
  (38, ⟨7, false, 1, 8, .nilf, [], [], 0, 0⟩),
  (39, ⟨7, false, 1, 8, .nilf, [], [], 0, 0⟩),
  (40, ⟨7, false, 1, 8, .nilf, [], [], 0, 0⟩),
  (41, ⟨3, true, 3, 24, .agg [.int .i64 (0), .int .i64 (0), .int .i64 (0)], [(0, 1), (1, 1), (2, 1)], [3, 3, 3], 0, 0⟩),
  (42, ⟨3, true, 3, 24, .agg [.int .i64 (0), .int .i64 (0), .int .i64 (0)], [(0, 1), (1, 1), (2, 1)], [3, 3, 3], 0, 0⟩),
  (43, ⟨7, false, 1, 8, .nilf, [], [], 0, 0⟩),
  (44, ⟨5, false, 1, 24, .nils, [], [], 0, 3⟩),
  (46, ⟨7, false, 1, 8, .nilf, [], [], 0, 0⟩),
  (47, ⟨7, false, 1, 8, .nilf, [], [], 0, 0⟩),
  (48, ⟨7, false, 1, 8, .nilf, [], [], 0, 0⟩),
  (49, ⟨3, true, 3, 56, .agg [.int .i64 (0), .nils, .nils], [(0, 1), (1, 1), (2, 1)], [3, 44, 44], 0, 0⟩),
  (50, ⟨3, true, 3, 56, .agg [.int .i64 (0), .nils, .nils], [(0, 1), (1, 1), (2, 1)], [3, 44, 44], 0, 0⟩),
  (51, ⟨7, false, 1, 8, .nilf, [], [], 0, 0⟩),
  (52, ⟨7, false, 1, 8, .nilf, [], [], 0, 0⟩),
  (53, ⟨7, false, 1, 8, .nilf, [], [], 0, 0⟩),
  (54, ⟨7, false, 1, 8, .nilf, [], [], 0, 0⟩),
  (55, ⟨3, true, 7, 56, .agg [.int .i64 (0), .int .i64 (0), .int .i64 (0), .int .i64 (0), .int .i64 (0), .int .i64 (0), .int .i64 (0)], [(0, 1), (1, 2), (3, 2), (5, 2)], [3, 32, 32, 32], 0, 0⟩),
  (56, ⟨3, true, 7, 56, .agg [.int .i64 (0), .int .i64 (0), .int .i64 (0), .int .i64 (0), .int .i64 (0), .int .i64 (0), .int .i64 (0)], [(0, 1), (1, 2), (3, 2), (5, 2)], [3, 32, 32, 32], 0, 0⟩),
  (57, ⟨7, false, 1, 8, .nilf, [], [], 0, 0⟩),
  (58, ⟨7, false, 1, 8, .nilf, [], [], 0, 0⟩),
  (59, ⟨7, false, 1, 8, .nilf, [], [], 0, 0⟩),
  (60, ⟨7, false, 1, 8, .nilf, [], [], 0, 0⟩),
  (61, ⟨7, false, 1, 8, .nilf, [], [], 0, 0⟩),
  (62, ⟨7, false, 1, 8, .nilf, [], [], 0, 0⟩),
  (63, ⟨7, false, 1, 8, .nilf, [], [], 0, 0⟩),
  (64, ⟨7, false, 1, 8, .nilf, [], [], 0, 0⟩),
  (65, ⟨7, false, 1, 8, .nilf, [], [], 0, 0⟩),
  (66, ⟨7, false, 1, 8, .nilf, [], [], 0, 0⟩),
  (67, ⟨6, false, 1, 8, .nilp, [], [], 0, 0⟩),
  (68, ⟨7, false, 1, 8, .nilf, [], [], 0, 0⟩),
  (69, ⟨5, false, 1, 24, .nils, [], [], 0, 82⟩),
  (70, ⟨7, false, 1, 8, .nilf, [], [], 0, 0⟩),
  (71, ⟨7, false, 1, 8, .nilf, [], [], 0, 0⟩),
  (72, ⟨7, false, 1, 8, .nilf, [], [], 0, 0⟩),
  (73, ⟨4, true, 3, 24, .agg [.int .i64 (0), .int .i64 (0), .int .i64 (0)], [], [], 3, 3⟩),
  (74, ⟨3, true, 7, 56, .agg [.int .i64 (0), .int .i64 (0), .int .i64 (0), .int .i64 (0), .int .i64 (0), .int .i64 (0), .int .i64 (0)], [(0, 1), (1, 3), (4, 3)], [3, 23, 73], 0, 0⟩),
  (75, ⟨3, true, 7, 56, .agg [.int .i64 (0), .int .i64 (0), .int .i64 (0), .int .i64 (0), .int .i64 (0), .int .i64 (0), .int .i64 (0)], [(0, 1), (1, 3), (4, 3)], [3, 23, 73], 0, 0⟩),
  (76, ⟨7, false, 1, 8, .nilf, [], [], 0, 0⟩),
  (77, ⟨3, true, 2, 16, .agg [.bool false, .nilf], [(0, 1), (1, 1)], [4, 76], 0, 0⟩),
  (78, ⟨3, true, 2, 16, .agg [.bool false, .nilf], [(0, 1), (1, 1)], [4, 76], 0, 0⟩),
  (80, ⟨7, false, 1, 8, .nilf, [], [], 0, 0⟩),
  (81, ⟨3, true, 3, 56, .agg [.int .i64 (0), .nils, .nils], [(0, 1), (1, 1), (2, 1)], [3, 44, 44], 0, 0⟩),
  (82, ⟨3, true, 3, 56, .agg [.int .i64 (0), .nils, .nils], [(0, 1), (1, 1), (2, 1)], [3, 44, 44], 0, 0⟩),
  (83, ⟨7, false, 1, 8, .nilf, [], [], 0, 0⟩),
  (84, ⟨7, false, 1, 8, .nilf, [], [], 0, 0⟩),
  (85, ⟨7, false, 1, 8, .nilf, [], [], 0, 0⟩),
  (86, ⟨7, false, 1, 8, .nilf, [], [], 0, 0⟩),
  (87, ⟨7, false, 1, 8, .nilf, [], [], 0, 0⟩),
  (88, ⟨7, false, 1, 8, .nilf, [], [], 0, 0⟩),
  (89, ⟨5, false, 1, 24, .nils, [], [], 0, 75⟩),
  (90, ⟨3, true, 2, 32, .agg [.nilp, .nils], [(0, 1), (1, 1)], [67, 89], 0, 0⟩),
  (91, ⟨3, true, 2, 32, .agg [.nilp, .nils], [(0, 1), (1, 1)], [67, 89], 0, 0⟩),
  (93, ⟨7, false, 1, 8, .nilf, [], [], 0, 0⟩),
  (94, ⟨7, false, 1, 8, .nilf, [], [], 0, 0⟩),
  (95, ⟨7, false, 1, 8, .nilf, [], [], 0, 0⟩),
  (96, ⟨7, false, 1, 8, .nilf, [], [], 0, 0⟩),
  (97, ⟨7, false, 1, 8, .nilf, [], [], 0, 0⟩),
  (98, ⟨7, false, 1, 8, .nilf, [], [], 0, 0⟩),
  (99, ⟨7, false, 1, 8, .nilf, [], [], 0, 0⟩),
  (100, ⟨3, true, 3, 24, .agg [.int .i64 (0), .int .i64 (0), .int .i64 (0)], [(0, 1), (1, 1), (2, 1)], [3, 3, 3], 0, 0⟩),
  (101, ⟨7, false, 1, 8, .nilf, [], [], 0, 0⟩),
  (102, ⟨7, false, 1, 8, .nilf, [], [], 0, 0⟩),
  (103, ⟨7, false, 1, 8, .nilf, [], [], 0, 0⟩),
  (104, ⟨7, false, 1, 8, .nilf, [], [], 0, 0⟩),
  (105, ⟨8, false, 1, 8, .nilm, [], [], 121, 3⟩),
  (106, ⟨3, true, 8, 96, .agg [.nils, .int .i64 (0), .int .i64 (0), .int .i64 (0), .int .i64 (0), .nils, .int .i64 (0), .nilm], [(0, 7), (7, 1)], [26, 105], 0, 0⟩),
  (107, ⟨3, true, 8, 96, .agg [.nils, .int .i64 (0), .int .i64 (0), .int .i64 (0), .int .i64 (0), .nils, .int .i64 (0), .nilm], [(0, 7), (7, 1)], [26, 105], 0, 0⟩),
  (108, ⟨7, false, 1, 8, .nilf, [], [], 0, 0⟩),
  (109, ⟨7, false, 1, 8, .nilf, [], [], 0, 0⟩),
  (110, ⟨7, false, 1, 8, .nilf, [], [], 0, 0⟩),
  (111, ⟨7, false, 1, 8, .nilf, [], [], 0, 0⟩),
  (112, ⟨7, false, 1, 8, .nilf, [], [], 0, 0⟩),
  (113, ⟨7, false, 1, 8, .nilf, [], [], 0, 0⟩),
  (114, ⟨7, false, 1, 8, .nilf, [], [], 0, 0⟩),
  (115, ⟨7, false, 1, 8, .nilf, [], [], 0, 0⟩),
  (116, ⟨3, true, 2, 16, .agg [.int .i64 (0), .nilf], [(0, 1), (1, 1)], [3, 115], 0, 0⟩),
  (117, ⟨3, true, 2, 16, .agg [.int .i64 (0), .nilf], [(0, 1), (1, 1)], [3, 115], 0, 0⟩),
  (118, ⟨4, true, 6, 48, .agg [.int .i64 (0), .nilf, .int .i64 (0), .nilf, .int .i64 (0), .nilf], [], [], 3, 117⟩),
  (119, ⟨7, false, 1, 8, .nilf, [], [], 0, 0⟩),
  (120, ⟨3, true, 2, 16, .agg [.int .i64 (0), .int .i64 (0)], [(0, 1), (1, 1)], [3, 3], 0, 0⟩),
  (121, ⟨3, true, 2, 16, .agg [.int .i64 (0), .int .i64 (0)], [(0, 1), (1, 1)], [3, 3], 0, 0⟩),
  (122, ⟨7, false, 1, 8, .nilf, [], [], 0, 0⟩),
  (123, ⟨7, false, 1, 8, .nilf, [], [], 0, 0⟩),
  (124, ⟨7, false, 1, 8, .nilf, [], [], 0, 0⟩),
  (125, ⟨7, false, 1, 8, .nilf, [], [], 0, 0⟩),
  (126, ⟨7, false, 1, 8, .nilf, [], [], 0, 0⟩),
  (127, ⟨7, false, 1, 8, .nilf, [], [], 0, 0⟩),
  (128, ⟨7, false, 1, 8, .nilf, [], [], 0, 0⟩),
  (129, ⟨7, false, 1, 8, .nilf, [], [], 0, 0⟩),
  (130, ⟨7, false, 1, 8, .nilf, [], [], 0, 0⟩),
  (131, ⟨7, false, 1, 8, .nilf, [], [], 0, 0⟩),
  (133, ⟨7, false, 1, 8, .nilf, [], [], 0, 0⟩),
  (134, ⟨7, false, 1, 8, .nilf, [], [], 0, 0⟩),
  (135, ⟨7, false, 1, 8, .nilf, [], [], 0, 0⟩),
  (136, ⟨7, false, 1, 8, .nilf, [], [], 0, 0⟩),
  (137, ⟨3, true, 4, 40, .agg [.nilp, .nilp, .nilp, .str ⟨#[]⟩], [(0, 1), (1, 1), (2, 1), (3, 1)], [17, 17, 17, 9], 0, 0⟩),
  (138, ⟨3, true, 4, 40, .agg [.nilp, .nilp, .nilp, .str ⟨#[]⟩], [(0, 1), (1, 1), (2, 1), (3, 1)], [17, 17, 17, 9], 0, 0⟩),
  (139, ⟨4, true, 0, 0, .agg [], [], [], 0, 16⟩),
  (140, ⟨3, true, 0, 0, .agg [], [(0, 0)], [139], 0, 0⟩),
  (141, ⟨3, true, 0, 0, .agg [], [(0, 0)], [139], 0, 0⟩),
  (145, ⟨7, false, 1, 8, .nilf, [], [], 0, 0⟩),
  (146, ⟨6, false, 1, 8, .nilp, [], [], 0, 0⟩)]
instance : Tab Try.prog := ⟨tyL, by kernel_rfl⟩
instance : PG Try.prog 0 := ⟨by kernel_rfl, by kernel_rfl⟩
def un3_3 : List (List Nat × Bool) := [([], true), ([0], true), ([], true), ([], true), ([], true), ([4], true), ([], true), ([], true), ([], true), ([], true), ([], true), ([9, 10], false), ([], true), ([], true), ([], true)]
def un6_3 : List (List Nat × Bool) := [([], false), ([0], false), ([], false), ([0, 1, 2], false), ([0, 1, 2], false), ([0, 1, 2], false), ([0, 1, 2], false), ([0, 1, 2, 3, 4, 5, 6], false), ([3, 4, 5, 6], true), ([], true)]
def un6_20 : List (List Nat × Bool) := [([], true), ([], true), ([0, 1], true), ([], true), ([], true), ([0, 1, 2, 3, 4], true), ([0, 1, 2, 3, 4], true), ([0, 1, 2, 3, 4, 5, 6], true), ([0, 1, 2, 3, 4], true), ([0, 1, 2, 3, 4], true), ([0, 1, 2, 3, 4], true), ([], true), ([], true), ([], true)]
def un6_21 : List (List Nat × Bool) := [([], true), ([], true), ([], true), ([], true), ([], true), ([], true), ([], true), ([], true), ([], true), ([], true), ([], true), ([], true), ([11], true), ([11], true), ([11, 12, 13], true), ([11], true), ([11], true), ([], true), ([], true), ([], true), ([], true), ([], true), ([21], true), ([], true), ([], true), ([], true), ([], true), ([], true), ([27], true), ([27], true), ([27, 28, 29], true), ([27], true), ([27], true), ([], true), ([], true), ([], true), ([], true), ([], true), ([], true), ([], true), ([], true), ([40], true), ([], true), ([], true), ([], true), ([], true), ([], true), ([], true), ([], true)]
def un6_23 : List (List Nat × Bool) := [([], false), ([], false), ([0, 1], false), ([], false), ([], false), ([0, 1, 2, 3, 4], false), ([0, 1, 2, 3, 4], false), ([0, 1, 2, 3, 4, 5, 6], false), ([0, 1, 2, 3, 4], false), ([0, 1, 2, 3, 4], false), ([0, 1, 2, 3, 4], false), ([], false), ([], false), ([0, 1, 2, 3, 4, 5, 6, 7, 8, 9, 10, 11, 12], true), ([0, 1, 2, 3, 4, 5, 6, 7, 8, 9, 10, 11, 12], true), ([0, 1, 2, 3, 4, 5, 6, 7, 8, 9, 10, 11, 12], true), ([], true), ([], true)]
def un7_3 : List (List Nat × Bool) := [([], false), ([0], false), ([], false), ([0, 1, 2], false), ([0, 1, 2, 3], false), ([0, 1, 2, 3], false), ([0, 1, 2, 3], false), ([], false), ([0, 1, 2, 3, 4, 5, 6, 7], false), ([], true), ([], true)]
def un8_7 : List (List Nat × Bool) := [([], true), ([0], true), ([0], true), ([0], true), ([0], true), ([], true), ([0, 1, 2, 3, 4, 5], false), ([0, 1, 2, 3, 4, 5], false), ([0, 1, 2, 3, 4, 5], false), ([], true), ([], true)]
def un12_6 : List (List Nat × Bool) := [([], true), ([], true), ([], true), ([], true), ([], true), ([], true), ([], true), ([], true), ([], true), ([7, 8], true), ([7, 8], true), ([7, 8, 9, 10], true), ([7, 8, 9, 10], true), ([7, 8], true), ([7, 8], true), ([7, 8], true), ([], true), ([], true), ([], true), ([], true), ([], true), ([], true), ([], true), ([], true), ([], true), ([], true), ([], true), ([], true), ([], true), ([], true), ([], true), ([], true), ([], true), ([], true), ([], true)]
def un12_14 : List (List Nat × Bool) := [([], true), ([0], true), ([0], true), ([0, 1, 2], true), ([0], true), ([0], true), ([], true), ([], true)]
def un13_1 : List (List Nat × Bool) := [([], false), ([0], true), ([0, 1], true), ([0], true), ([0, 1, 2, 3], false), ([0], true), ([], true), ([], true), ([7], true), ([], true), ([], true)]
def un14_1 : List (List Nat × Bool) := [([], false), ([0], true), ([0, 1], true), ([0], true), ([], true), ([], true), ([], true), ([6], true), ([7], true), ([], true)]
def un15_1 : List (List Nat × Bool) := [([], false), ([0], true), ([0, 1], true), ([0], true), ([0, 1, 2, 3], false), ([0], true), ([], true), ([], true), ([7], true), ([], true), ([], true)]
def un16_1 : List (List Nat × Bool) := [([], false), ([0], true), ([0, 1], true), ([0], true), ([], true), ([], true), ([], true), ([6], true), ([7], true), ([], true)]
def un16_8 : List (List Nat × Bool) := [([], false), ([0], true), ([0, 1], true), ([0, 1, 2], true), ([0, 1], true), ([0, 1], true), ([0, 1, 2, 3, 4, 5], true), ([0], true), ([0], true), ([], true), ([], true)]
def un17_1 : List (List Nat × Bool) := [([], false), ([0], true), ([0, 1], true), ([0], true), ([0, 1, 2, 3], false), ([0], true), ([], true), ([], true), ([7], true), ([], true), ([], true)]
def un18_1 : List (List Nat × Bool) := [([], false), ([0], true), ([0, 1], true), ([0], true), ([], true), ([], true), ([], true), ([6], true), ([7], true), ([], true)]
def un19_6 : List (List Nat × Bool) := [([], true), ([], true), ([], true), ([], true), ([], true), ([], true), ([], true), ([], true), ([], true), ([], true), ([], true), ([], true), ([], true), ([], true), ([], true), ([], true), ([], true), ([], true), ([], true), ([], false), ([19], true), ([], true), ([], true), ([], true), ([], false), ([24], true), ([], true), ([], true), ([], true), ([], false), ([29], true), ([], true), ([], true), ([], true), ([], true), ([], true), ([], true), ([], true), ([], true), ([], true), ([], true)]
def un19_14 : List (List Nat × Bool) := [([], true), ([], true), ([], true), ([], true), ([], true), ([], true), ([], true), ([], true), ([], true), ([], true), ([], true), ([], true), ([], true), ([], true), ([], true), ([], true), ([], true), ([], true), ([], true), ([], true), ([], true), ([], true), ([], true), ([], false), ([23], true), ([], true), ([], true), ([], true), ([], true), ([], true), ([], true), ([], true), ([], true), ([], true), ([], true), ([], false), ([35], true), ([], true), ([], true), ([], true), ([], true), ([], true), ([], true), ([], true), ([], true), ([], true), ([], true)]
def un23_8 : List (List Nat × Bool) := [([], true), ([0], true), ([0, 1], true), ([0], true), ([0], true), ([], true)]
def un25_8 : List (List Nat × Bool) := [([], false), ([0], false), ([0], false), ([0, 1, 2], true), ([0, 1, 2, 3], true), ([0, 1, 2, 3, 4], true), ([0, 1, 2, 3], true), ([0, 1, 2, 3], true), ([0, 1, 2, 3, 4, 5, 6, 7], true), ([0, 1, 2, 3, 4, 5, 6, 7], true), ([0, 1, 2, 3, 4, 5, 6, 7], true), ([0, 1, 2, 3, 4, 5, 6, 7], true), ([0, 1, 2], true), ([0, 1, 2, 3, 4, 5, 6, 7, 8, 9, 10, 11, 12], false), ([0, 1, 2, 3, 4, 5, 6, 7, 8, 9, 10, 11, 12, 13], false), ([0, 1, 2, 3, 4, 5, 6, 7, 8, 9, 10, 11, 12], false), ([0, 1, 2, 3, 4, 5, 6, 7, 8, 9, 10, 11, 12], false), ([0, 1, 2, 3, 4, 5, 6, 7, 8, 9, 10, 11, 12], false), ([0, 1, 2], true), ([0, 1, 2], true), ([0], true), ([0], true), ([], true), ([], true)]
def un29_11 : List (List Nat × Bool) := [([], true), ([], true), ([], true), ([2], true), ([2, 3], true), ([2], true), ([2], true), ([2, 3, 4, 5, 6], true), ([], true), ([], true), ([], true), ([], true)]
def un30_1 : List (List Nat × Bool) := [([], false), ([0], false), ([0, 1], false), ([0], false), ([], false), ([], false), ([], false), ([6], false), ([0, 1, 2, 3, 4, 5, 6, 7], false), ([7], true), ([], true)]
def un31_1 : List (List Nat × Bool) := [([], false), ([0], true), ([0, 1], true), ([0], true), ([], true), ([], true), ([], true), ([6], true), ([7], true), ([], true)]
def un34_5 : List (List Nat × Bool) := [([], true), ([0], true), ([], true), ([], true), ([0, 1, 2, 3], true), ([0, 1, 2, 3, 4], true), ([0, 1, 2, 3], true), ([0, 1, 2, 3], true), ([], true), ([], true)]
def un36_6 : List (List Nat × Bool) := [([], false), ([], false), ([0, 1], true), ([0, 1, 2], true), ([0, 1, 2], true), ([0, 1], true), ([], true), ([], true)]
def un36_7 : List (List Nat × Bool) := [([], false), ([0], false), ([0], false), ([0, 1, 2], true), ([0, 1, 2, 3], true), ([0, 1, 2, 3], true), ([0, 1, 2], true), ([0], true), ([0, 1, 2, 3, 4, 5, 6, 7], false), ([0], true), ([0, 1, 2, 3, 4, 5, 6, 7, 8, 9], false), ([0, 1, 2, 3, 4, 5, 6, 7, 8, 9], false), ([0, 1, 2, 3, 4, 5, 6, 7, 8, 9, 10, 11], false), ([0, 1, 2, 3, 4, 5, 6, 7, 8, 9], false), ([0, 1, 2, 3, 4, 5, 6, 7, 8, 9], false), ([0], true), ([], true), ([], true)]
def un36_8 : List (List Nat × Bool) := [([], false), ([], false), ([0, 1], false), ([0, 1], false), ([], true), ([0, 1, 2, 3, 4], false), ([0, 1, 2, 3, 4], false), ([0, 1, 2, 3, 4, 5, 6], false), ([0, 1, 2, 3, 4, 5, 6], false), ([], true), ([7, 8, 9], false), ([], true), ([], true), ([], true)]
def un36_9 : List (List Nat × Bool) := [([], false), ([0], false), ([0], false), ([0, 1, 2], true), ([0, 1, 2, 3], true), ([0, 1, 2, 3], true), ([0, 1, 2], true), ([0], true), ([], true), ([], true)]
def un37_7 : List (List Nat × Bool) := [([], false), ([], false), ([0, 1], false), ([0, 1], false), ([], false), ([], false), ([0, 1, 2, 3, 4, 5], true), ([0, 1, 2, 3, 4, 5], true), ([0, 1, 2, 3, 4, 5], true), ([0, 1, 2, 3, 4, 5, 6, 7, 8], true), ([0, 1, 2, 3, 4, 5, 6, 7, 8], true), ([0, 1, 2, 3, 4, 5], true), ([0, 1, 2, 3, 4, 5, 6, 7, 8, 9, 10, 11], false), ([0, 1, 2, 3, 4, 5, 6, 7, 8, 9, 10, 11, 12], false), ([0, 1, 2, 3, 4, 5, 6, 7, 8, 9, 10, 11], false), ([0, 1, 2, 3, 4, 5], true), ([], true), ([], true), ([], true)]
def un42_2 : List (List Nat × Bool) := [([], false), ([0], false), ([0], false), ([], true), ([0, 1, 2, 3], false), ([0, 1, 2, 3], false), ([], true), ([], true), ([], true)]
def un47_7 : List (List Nat × Bool) := [([], false), ([], false), ([0, 1], true), ([0, 1], true), ([0, 1, 2, 3], true), ([0, 1], true), ([0, 1], true), ([0, 1], true), ([], true), ([], true), ([], true)]
def un60_5 : List (List Nat × Bool) := [([], false), ([0], true), ([0, 1], true), ([0], true), ([0], true), ([0], true), ([], true), ([], true)]
def un62_1 : List (List Nat × Bool) := [([], true), ([0], true), ([], true), ([], true), ([0, 1, 2, 3], true), ([0, 1, 2, 3], true), ([0, 1, 2, 3], true), ([0, 1, 2, 3], true), ([0, 1, 2, 3], true), ([0, 1, 2, 3, 4, 5, 6, 7, 8], true), ([0, 1, 2, 3], true), ([0, 1, 2, 3], true), ([0, 1, 2, 3], true), ([], true), ([], true), ([], true)]
def un63_1 : List (List Nat × Bool) := [([], true), ([], true), ([0, 1], true), ([], true), ([], true), ([0, 1, 2, 3, 4], true), ([0, 1, 2, 3, 4], true), ([0, 1, 2, 3, 4, 5, 6], true), ([0, 1, 2, 3, 4], true), ([0, 1, 2, 3, 4], true), ([0, 1, 2, 3, 4], true), ([], true), ([], true), ([], true)]
def un74_1 : List (List Nat × Bool) := [([], true), ([0], true), ([], true), ([0, 1, 2], false), ([], true), ([], true), ([], true)]
def un75_3 : List (List Nat × Bool) := [([], true), ([], true), ([], true), ([], false), ([], false), ([3, 4], false), ([], false), ([], false), ([3, 4, 5, 6, 7], true), ([3, 4, 5, 6, 7], true), ([3, 4, 5, 6, 7], true), ([], true), ([3, 4, 5, 6, 7, 8, 9, 10, 11], false), ([3, 4, 5, 6, 7, 8, 9, 10, 11], false), ([3, 4, 5, 6, 7, 8, 9, 10, 11, 12, 13], false), ([3, 4, 5, 6, 7, 8, 9, 10, 11], false), ([3, 4, 5, 6, 7, 8, 9, 10, 11], false), ([3, 4, 5, 6, 7, 8, 9, 10, 11], false), ([], true), ([], true), ([], true)]
def un76_1 : List (List Nat × Bool) := [([], false), ([], false), ([], false), ([], false), ([], false), ([0, 1, 2, 3, 4], true), ([0, 1, 2, 3, 4, 5], true), ([0, 1, 2, 3, 4], true), ([0, 1, 2, 3, 4, 5, 6, 7], false), ([0, 1, 2, 3, 4], true), ([0, 1, 2, 3, 4], true), ([], true), ([], true)]
def un80_2 : List (List Nat × Bool) := [([], true), ([0], true), ([0], true), ([], true), ([0, 1, 2, 3], false), ([], true), ([], true)]
def un81_2 : List (List Nat × Bool) := [([], false), ([0], false), ([0], false), ([], true), ([0, 1, 2, 3], false), ([0, 1, 2, 3], false), ([], true), ([], true), ([], true)]
def un82_3 : List (List Nat × Bool) := [([], false), ([0], false), ([0], false), ([0], false), ([0], false), ([0], false), ([0], false), ([0], false), ([0], false), ([], false), ([0, 1, 2, 3, 4, 5, 6, 7, 8, 9], false), ([], true)]
def un82_6 : List (List Nat × Bool) := [([], false), ([0], true), ([0, 1], true), ([0], true), ([], true), ([], true)]
def un83_7 : List (List Nat × Bool) := [([], false), ([], false), ([0, 1], true), ([0, 1], true), ([0, 1, 2, 3], true), ([0, 1], true), ([0, 1], true), ([0, 1], true), ([], true), ([], true), ([], true)]
def un85_1 : List (List Nat × Bool) := [([], false), ([], false), ([0, 1], true), ([0, 1, 2], true), ([0, 1, 2], true), ([0, 1, 2, 3, 4], true), ([0, 1, 2, 3, 4], true), ([0, 1, 2], true), ([0, 1, 2], true), ([0, 1], true), ([], true), ([], true)]
def un87_4 : List (List Nat × Bool) := [([], true), ([0], true), ([], true), ([], true), ([0, 1, 2, 3], true), ([0, 1, 2, 3, 4], true), ([0, 1, 2, 3], true), ([0, 1, 2, 3], true), ([], true)]
def un87_5 : List (List Nat × Bool) := [([], true), ([0], true), ([], true), ([], true), ([0, 1, 2, 3], true), ([0, 1, 2, 3, 4], true), ([0, 1, 2, 3], true), ([0, 1, 2, 3], true), ([], true), ([], true)]
def un89_17 : List (List Nat × Bool) := [([], false), ([0], false), ([0, 1], false), ([0, 1], false), ([0, 1, 2, 3], true), ([0, 1, 2, 3], true), ([0, 1, 2, 3, 4, 5], true), ([0, 1, 2, 3], true), ([0, 1, 2, 3, 4, 5, 6, 7], false), ([0, 1, 2, 3, 4, 5, 6, 7], false), ([0, 1, 2, 3, 4, 5, 6, 7, 8, 9], false), ([0, 1, 2, 3], true), ([0, 1], true), ([0, 1, 2, 3, 4, 5, 6, 7, 8, 9, 10, 11, 12], false), ([0, 1, 2, 3, 4, 5, 6, 7, 8, 9, 10, 11, 12, 13], false), ([0, 1, 2, 3, 4, 5, 6, 7, 8, 9, 10, 11, 12], false), ([0], true), ([], true), ([], true)]
def un94_1 : List (List Nat × Bool) := [([], true), ([], true), ([0, 1], true), ([0, 1], true), ([0, 1, 2, 3], true), ([0, 1, 2, 3], true), ([0, 1, 2, 3], true), ([0, 1, 2, 3], true), ([], true), ([], true)]
def un100_1 : List (List Nat × Bool) := [([], true), ([0], true), ([0], true), ([0], true), ([0], true), ([0], true), ([0], true), ([0], true), ([0, 1, 2, 3, 4, 5, 6, 7], true), ([], true), ([], true)]
def un108_3 : List (List Nat × Bool) := [([], false), ([0], false), ([0, 1], false), ([], false), ([0, 1, 2, 3], false), ([0, 1, 2, 3], false), ([0, 1, 2, 3], false), ([0, 1, 2, 3], false), ([0, 1, 2, 3], false), ([0, 1, 2, 3, 4, 5, 6, 7, 8], false), ([0, 1, 2, 3], false), ([0, 1, 2, 3], false), ([0, 1, 2, 3], false), ([0, 1, 2, 3, 4, 5, 6, 7, 8, 9, 10, 11, 12], false), ([0, 1, 2, 3, 4, 5, 6, 7, 8, 9, 10, 11, 12, 13], false), ([4, 5, 6, 7, 8, 9, 10, 11, 12], true), ([], true)]
def un109_1 : List (List Nat × Bool) := [([], false), ([0], false), ([0, 1], false), ([], false), ([0, 1, 2, 3], false), ([0, 1, 2, 3], false), ([0, 1, 2, 3], false), ([0, 1, 2, 3], false), ([0, 1, 2, 3], false), ([0, 1, 2, 3, 4, 5, 6, 7, 8], false), ([0, 1, 2, 3], false), ([0, 1, 2, 3], false), ([0, 1, 2, 3], false), ([0, 1, 2, 3, 4, 5, 6, 7, 8, 9, 10, 11, 12], false), ([0, 1, 2, 3, 4, 5, 6, 7, 8, 9, 10, 11, 12, 13], false), ([0, 1, 2, 3, 4, 5, 6, 7, 8, 9, 10, 11, 12, 13], false), ([0, 1, 2, 3, 4, 5, 6, 7, 8, 9, 10, 11, 12, 14, 15], false), ([0, 1, 2, 3, 4, 5, 6, 7, 8, 9, 10, 11, 12, 14, 15], false), ([0, 1, 2, 3, 4, 5, 6, 7, 8, 9, 10, 11, 12, 14, 15], false), ([0, 1, 2, 3, 4, 5, 6, 7, 8, 9, 10, 11, 12], false), ([0, 1, 2, 3, 4, 5, 6, 7, 8, 9, 10, 11, 12], false), ([0, 1, 2, 3, 4, 5, 6, 7, 8, 9, 10, 11, 12, 13, 14, 15, 16, 17, 18, 19, 20], false), ([0, 1, 2, 3, 4, 5, 6, 7, 8, 9, 10, 11, 12, 13, 14, 15, 16, 17, 18, 19, 20, 21], false), ([4, 5, 6, 7, 8, 9, 10, 11, 12, 13, 14, 15, 16, 17, 18, 19, 20], true), ([13, 14, 15, 16, 17, 18, 19, 20], true), ([], true)]
def un109_2 : List (List Nat × Bool) := [([], false), ([], false), ([0, 1], false), ([0, 1], false), ([0, 1, 2, 3], false), ([], false), ([], false), ([0, 1, 2, 3, 4, 5, 6], false), ([0, 1, 2, 3, 4, 5, 6], false), ([0, 1, 2, 3, 4, 5, 6, 7, 8], false), ([0, 1, 2, 3, 4, 5, 6, 7, 8], false), ([0, 1, 2, 3, 4, 5, 6, 7, 8, 9, 10], false), ([0, 1, 2, 3, 4, 5, 6], false), ([], true), ([], true), ([], true)]
def un110_2 : List (List Nat × Bool) := [([], true), ([], true), ([], true), ([], true), ([0, 1, 2, 3], true), ([], true), ([], true), ([], true), ([7], true), ([8], true), ([], true)]
def un110_11 : List (List Nat × Bool) := [([], true), ([], true), ([], true), ([], true), ([0, 1, 2, 3], true), ([0, 1, 2, 3, 4], true), ([], true)]
def un123_3 : List (List Nat × Bool) := [([], false), ([], false), ([0, 1], false), ([], false), ([], false), ([0, 1, 2, 3, 4], false), ([0, 1, 2, 3, 4], false), ([0, 1, 2, 3, 4], false), ([0, 1, 2, 3, 4], false), ([0, 1, 2, 3, 4], false), ([0, 1, 2, 3, 4, 5, 6, 7, 8, 9], false), ([0, 1, 2, 3, 4, 5, 6, 7, 8, 9], false), ([0, 1, 2, 3, 4], false), ([0, 1, 2, 3, 4], false), ([0, 1, 2, 3, 4], false), ([0, 1, 2, 3, 4, 5, 6, 7, 8, 9, 10, 11, 12, 13, 14], true), ([5, 6, 7, 8, 9, 10, 11, 12, 13, 14], true), ([], true)]
end Go.Proofs.Ytlnmcadbmpiopaa
