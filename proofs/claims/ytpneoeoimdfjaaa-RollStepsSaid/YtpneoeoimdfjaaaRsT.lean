/- What is known of the program's types. -/
import Derived.Test.YtpneoeoimdfjaaaRs1
import Derived.Test.YtpneoeoimdfjaaaProg
import Derived.KernelRfl
set_option linter.unusedVariables false
set_option linter.unusedSimpArgs false
namespace Go.Proofs.Ytpneoeoimdfjaaa
open Go Go.Ev
def tyL : List (Nat × Ty) := [(1, ⟨7, false, 1, 8, .nilf, [], [], 0, 0⟩),
  (2, ⟨0, false, 1, 8, .int .i64 (0), [], [], 0, 0⟩),
  (3, ⟨0, false, 1, 8, .int .i64 (0), [], [], 0, 0⟩),
  (4, ⟨1, false, 1, 1, .bool false, [], [], 0, 0⟩),
  (9, ⟨2, false, 1, 16, .str ⟨#[]⟩, [], [], 0, 0⟩),
  (10, ⟨2, false, 1, 16, .str ⟨#[]⟩, [], [], 0, 0⟩),
  (11, ⟨2, false, 1, 16, .str ⟨#[]⟩, [], [], 0, 0⟩),
  (15, ⟨6, false, 1, 8, .nilp, [], [], 0, 0⟩),
  (16, ⟨6, false, 1, 8, .nilp, [], [], 0, 0⟩),
  (17, ⟨6, false, 1, 8, .nilp, [], [], 0, 0⟩),
  (18, ⟨3, true, 1, 8, .agg [.nilp], [(0, 1)], [17], 0, 0⟩),
  (19, ⟨3, true, 1, 8, .agg [.nilp], [(0, 1)], [17], 0, 0⟩),
  (22, ⟨5, false, 1, 24, .nils, [], [], 0, 106⟩),
  (23, ⟨5, false, 1, 24, .nils, [], [], 0, 57⟩),
  (24, ⟨5, false, 1, 24, .nils, [], [], 0, 39⟩),
  (25, ⟨3, true, 3, 72, .agg [.nils, .nils, .nils], [(0, 1), (1, 1), (2, 1)], [22, 23, 24], 0, 0⟩),
  (26, ⟨3, true, 3, 72, .agg [.nils, .nils, .nils], [(0, 1), (1, 1), (2, 1)], [22, 23, 24], 0, 0⟩),
  (27, ⟨4, true, 2, 16, .agg [.int .i64 (0), .int .i64 (0)], [], [], 2, 3⟩),
  (28, ⟨7, false, 1, 8, .nilf, [], [], 0, 0⟩),
  (29, ⟨7, false, 1, 8, .nilf, [], [], 0, 0⟩),
  (30, ⟨7, false, 1, 8, .nilf, [], [], 0, 0⟩),
  (31, ⟨3, true, 2, 16, .agg [.int .i64 (0), .int .i64 (0)], [(0, 1), (1, 1)], [3, 3], 0, 0⟩),
  (32, ⟨3, true, 2, 16, .agg [.int .i64 (0), .int .i64 (0)], [(0, 1), (1, 1)], [3, 3], 0, 0⟩),
  (33, ⟨0, false, 1, 8, .int .i64 (0), [], [], 0, 0⟩),
  (35, ⟨7, false, 1, 8, .nilf, [], [], 0, 0⟩),
  (37, ⟨7, false, 1, 8, .nilf, [], [], 0, 0⟩),
  (38, ⟨3, true, 2, 16, .agg [.int .i64 (0), .int .i64 (0)], [(0, 1), (1, 1)], [3, 3], 0, 0⟩),
  (39, ⟨3, true, 2, 16, .agg [.int .i64 (0), .int .i64 (0)], [(0, 1), (1, 1)], [3, 3], 0, 0⟩),
  (40, ⟨7, false, 1, 8, .nilf, [], [], 0, 0⟩),
  (41, ⟨7, false, 1, 8, .nilf, [], [], 0, 0⟩),
  (42, ⟨7, false, 1, 8, .nilf, [], [], 0, 0⟩),
  (43, ⟨5, false, 1, 24, .nils, [], [], 0, 3⟩),
  (44, ⟨7, false, 1, 8, .nilf, [], [], 0, 0⟩),
  (45, ⟨7, false, 1, 8, .nilf, [], [], 0, 0⟩),
  (47, ⟨7, false, 1, 8, .nilf, [], [], 0, 0⟩),
  (48, ⟨7, false, 1, 8, .nilf, [], [], 0, 0⟩),
  (49, ⟨7, false, 1, 8, .nilf, [], [], 0, 0⟩),
  (50, ⟨7, false, 1, 8, .nilf, [], [], 0, 0⟩),
  (51, ⟨7, false, 1, 8, .nilf, [], [], 0, 0⟩),
  (52, ⟨7, false, 1, 8, .nilf, [], [], 0, 0⟩),
  (53, ⟨7, false, 1, 8, .nilf, [], [], 0, 0⟩),
  (54, ⟨7, false, 1, 8, .nilf, [], [], 0, 0⟩),
  (55, ⟨6, false, 1, 8, .nilp, [], [], 0, 0⟩),
  (56, ⟨3, true, 3, 24, .agg [.int .i64 (0), .int .i64 (0), .int .i64 (0)], [(0, 2), (2, 1)], [32, 3], 0, 0⟩),
  (57, ⟨3, true, 3, 24, .agg [.int .i64 (0), .int .i64 (0), .int .i64 (0)], [(0, 2), (2, 1)], [32, 3], 0, 0⟩),
  (59, ⟨7, false, 1, 8, .nilf, [], [], 0, 0⟩),
  (60, ⟨7, false, 1, 8, .nilf, [], [], 0, 0⟩),
  (61, ⟨7, false, 1, 8, .nilf, [], [], 0, 0⟩),
  (62, ⟨7, false, 1, 8, .nilf, [], [], 0, 0⟩),
  (63, ⟨7, false, 1, 8, .nilf, [], [], 0, 0⟩),
  (64, ⟨7, false, 1, 8, .nilf, [], [], 0, 0⟩),
  (65, ⟨7, false, 1, 8, .nilf, [], [], 0, 0⟩),
  (66, ⟨7, false, 1, 8, .nilf, [], [], 0, 0⟩),
  (67, ⟨6, false, 1, 8, .nilp, [], [], 0, 0⟩),
  (68, ⟨5, false, 1, 24, .nils, [], [], 0, 83⟩),
  (69, ⟨8, false, 1, 8, .nilm, [], [], 78, 3⟩),
  (70, ⟨4, true, 5, 40, .agg [.nilm, .nilm, .nilm, .nilm, .nilm], [], [], 5, 69⟩),
  (71, ⟨3, true, 7, 72, .agg [.nilp, .nils, .nilm, .nilm, .nilm, .nilm, .nilm], [(0, 1), (1, 1), (2, 5)], [67, 68, 70], 0, 0⟩),
  (72, ⟨3, true, 7, 72, .agg [.nilp, .nils, .nilm, .nilm, .nilm, .nilm, .nilm], [(0, 1), (1, 1), (2, 5)], [67, 68, 70], 0, 0⟩),
  (74, ⟨7, false, 1, 8, .nilf, [], [], 0, 0⟩),
  (75, ⟨7, false, 1, 8, .nilf, [], [], 0, 0⟩),
  (76, ⟨4, true, 5, 40, .agg [.int .i64 (0), .int .i64 (0), .int .i64 (0), .int .i64 (0), .int .i64 (0)], [], [], 5, 3⟩),
  (77, ⟨3, true, 2, 16, .agg [.int .i64 (0), .int .i64 (0)], [(0, 1), (1, 1)], [3, 3], 0, 0⟩),
  (78, ⟨3, true, 2, 16, .agg [.int .i64 (0), .int .i64 (0)], [(0, 1), (1, 1)], [3, 3], 0, 0⟩),
  (79, ⟨4, true, 10, 80, .agg [.int .i64 (0), .int .i64 (0), .int .i64 (0), .int .i64 (0), .int .i64 (0), .int .i64 (0), .int .i64 (0), .int .i64 (0), .int .i64 (0), .int .i64 (0)], [], [], 5, 78⟩),
  (80, ⟨4, true, 4, 32, .agg [.int .i64 (0), .int .i64 (0), .int .i64 (0), .int .i64 (0)], [], [], 4, 3⟩),
  (81, ⟨4, true, 4, 32, .agg [.int .i64 (0), .int .i64 (0), .int .i64 (0), .int .i64 (0)], [], [], 4, 3⟩),
  (82, ⟨3, true, 28, 224, .agg [.int .i64 (0), .int .i64 (0), .int .i64 (0), .int .i64 (0), .int .i64 (0), .int .i64 (0), .int .i64 (0), .int .i64 (0), .int .i64 (0), .int .i64 (0), .int .i64 (0), .int .i64 (0), .int .i64 (0), .int .i64 (0), .int .i64 (0), .int .i64 (0), .int .i64 (0), .int .i64 (0), .int .i64 (0), .int .i64 (0), .int .i64 (0), .int .i64 (0), .int .i64 (0), .int .i64 (0), .int .i64 (0), .int .i64 (0), .int .i64 (0), .int .i64 (0)], [(0, 5), (5, 5), (10, 10), (20, 4), (24, 4)], [76, 76, 79, 81, 81], 0, 0⟩),
  (83, ⟨3, true, 28, 224, .agg [.int .i64 (0), .int .i64 (0), .int .i64 (0), .int .i64 (0), .int .i64 (0), .int .i64 (0), .int .i64 (0), .int .i64 (0), .int .i64 (0), .int .i64 (0), .int .i64 (0), .int .i64 (0), .int .i64 (0), .int .i64 (0), .int .i64 (0), .int .i64 (0), .int .i64 (0), .int .i64 (0), .int .i64 (0), .int .i64 (0), .int .i64 (0), .int .i64 (0), .int .i64 (0), .int .i64 (0), .int .i64 (0), .int .i64 (0), .int .i64 (0), .int .i64 (0)], [(0, 5), (5, 5), (10, 10), (20, 4), (24, 4)], [76, 76, 79, 81, 81], 0, 0⟩),
  (84, ⟨7, false, 1, 8, .nilf, [], [], 0, 0⟩),
  (85, ⟨7, false, 1, 8, .nilf, [], [], 0, 0⟩),
  (86, ⟨7, false, 1, 8, .nilf, [], [], 0, 0⟩),
  (87, ⟨7, false, 1, 8, .nilf, [], [], 0, 0⟩),
  (88, ⟨3, true, 2, 16, .agg [.int .i64 (0), .int .i64 (0)], [(0, 1), (1, 1)], [3, 3], 0, 0⟩),
  (89, ⟨7, false, 1, 8, .nilf, [], [], 0, 0⟩),
  (90, ⟨7, false, 1, 8, .nilf, [], [], 0, 0⟩),
  (91, ⟨7, false, 1, 8, .nilf, [], [], 0, 0⟩),
  (92, ⟨7, false, 1, 8, .nilf, [], [], 0, 0⟩),
  (93, ⟨7, false, 1, 8, .nilf, [], [], 0, 0⟩),
  (94, ⟨7, false, 1, 8, .nilf, [], [], 0, 0⟩),
  (95, ⟨7, false, 1, 8, .nilf, [], [], 0, 0⟩),
  (96, ⟨7, false, 1, 8, .nilf, [], [], 0, 0⟩),
  (97, ⟨7, false, 1, 8, .nilf, [], [], 0, 0⟩),
  (98, ⟨7, false, 1, 8, .nilf, [], [], 0, 0⟩),
  (99, ⟨7, false, 1, 8, .nilf, [], [], 0, 0⟩),
  (100, ⟨7, false, 1, 8, .nilf, [], [], 0, 0⟩),
  (101, ⟨7, false, 1, 8, .nilf, [], [], 0, 0⟩),
  (102, ⟨7, false, 1, 8, .nilf, [], [], 0, 0⟩),
  (103, ⟨3, true, 4, 80, .agg [.nils, .nils, .nils, .nilf], [(0, 3), (3, 1)], [26, 30], 0, 0⟩),
  (104, ⟨3, true, 4, 80, .agg [.nils, .nils, .nils, .nilf], [(0, 3), (3, 1)], [26, 30], 0, 0⟩),
  (105, ⟨3, true, 2, 16, .agg [.int .i64 (0), .int .i64 (0)], [(0, 1), (1, 1)], [3, 3], 0, 0⟩),
  (106, ⟨3, true, 2, 16, .agg [.int .i64 (0), .int .i64 (0)], [(0, 1), (1, 1)], [3, 3], 0, 0⟩),
  (107, ⟨7, false, 1, 8, .nilf, [], [], 0, 0⟩),
  (108, ⟨7, false, 1, 8, .nilf, [], [], 0, 0⟩),
  (109, ⟨7, false, 1, 8, .nilf, [], [], 0, 0⟩),
  (110, ⟨7, false, 1, 8, .nilf, [], [], 0, 0⟩),
  (111, ⟨7, false, 1, 8, .nilf, [], [], 0, 0⟩),
  (112, ⟨7, false, 1, 8, .nilf, [], [], 0, 0⟩),
  (113, ⟨7, false, 1, 8, .nilf, [], [], 0, 0⟩),
  (114, ⟨7, false, 1, 8, .nilf, [], [], 0, 0⟩),
  (115, ⟨7, false, 1, 8, .nilf, [], [], 0, 0⟩),
  (116, ⟨7, false, 1, 8, .nilf, [], [], 0, 0⟩),
  (117, ⟨7, false, 1, 8, .nilf, [], [], 0, 0⟩),
  (118, ⟨7, false, 1, 8, .nilf, [], [], 0, 0⟩),
  (119, ⟨3, true, 2, 16, .agg [.nilf, .int .i64 (0)], [(0, 1), (1, 1)], [118, 3], 0, 0⟩),
  (120, ⟨3, true, 2, 16, .agg [.nilf, .int .i64 (0)], [(0, 1), (1, 1)], [118, 3], 0, 0⟩),
  (121, ⟨4, true, 6, 48, .agg [.nilf, .int .i64 (0), .nilf, .int .i64 (0), .nilf, .int .i64 (0)], [], [], 3, 120⟩),
  (122, ⟨7, false, 1, 8, .nilf, [], [], 0, 0⟩),
  (123, ⟨7, false, 1, 8, .nilf, [], [], 0, 0⟩),
  (124, ⟨6, false, 1, 8, .nilp, [], [], 0, 0⟩),
  (125, ⟨6, false, 1, 8, .nilp, [], [], 0, 0⟩),
  (126, ⟨7, false, 1, 8, .nilf, [], [], 0, 0⟩),
  (127, ⟨7, false, 1, 8, .nilf, [], [], 0, 0⟩),
  (128, ⟨3, true, 2, 16, .agg [.int .i64 (0), .int .i64 (0)], [(0, 1), (1, 1)], [3, 3], 0, 0⟩),
  (129, ⟨7, false, 1, 8, .nilf, [], [], 0, 0⟩),
  (130, ⟨7, false, 1, 8, .nilf, [], [], 0, 0⟩),
  (131, ⟨3, true, 4, 40, .agg [.nilp, .nilp, .nilp, .str ⟨#[]⟩], [(0, 1), (1, 1), (2, 1), (3, 1)], [17, 17, 17, 9], 0, 0⟩),
  (132, ⟨3, true, 4, 40, .agg [.nilp, .nilp, .nilp, .str ⟨#[]⟩], [(0, 1), (1, 1), (2, 1), (3, 1)], [17, 17, 17, 9], 0, 0⟩),
  (133, ⟨4, true, 0, 0, .agg [], [], [], 0, 16⟩),
  (134, ⟨3, true, 0, 0, .agg [], [(0, 0)], [133], 0, 0⟩),
  (135, ⟨3, true, 0, 0, .agg [], [(0, 0)], [133], 0, 0⟩),
  (136, ⟨7, false, 1, 8, .nilf, [], [], 0, 0⟩),
  (140, ⟨7, false, 1, 8, .nilf, [], [], 0, 0⟩),
  (141, ⟨6, false, 1, 8, .nilp, [], [], 0, 0⟩)]
instance : Tab Try.prog := ⟨tyL, by kernel_rfl⟩
instance : PG Try.prog 0 := ⟨by kernel_rfl, by kernel_rfl⟩
def un3_3 : List (List Nat × Bool) := [([], true), ([], true), ([0, 1], true), ([0, 1], true), ([0, 1], true), ([], true), ([0, 1, 2, 3, 4, 5], false), ([0, 1, 2, 3, 4, 5], false), ([0, 1, 2, 3, 4, 5, 6, 7], false), ([0, 1, 2, 3, 4, 5, 6, 7], false), ([0, 1, 2, 3, 4, 5, 6, 7], false), ([0, 1, 2, 3, 4, 5, 6, 7], false), ([], true), ([], true), ([], true)]
def un3_7 : List (List Nat × Bool) := [([], true), ([], true), ([], true), ([], true), ([3], true), ([], true), ([], true), ([], true), ([], false), ([8], true), ([], true), ([], true), ([], true), ([], true), ([], true), ([], true), ([], true), ([], true), ([], true), ([], true)]
def un3_13 : List (List Nat × Bool) := [([], false), ([0], false), ([0, 1], true), ([0, 1], true), ([0, 1, 2, 3], true), ([0, 1, 2, 3], true), ([0, 1], true), ([0, 1, 2, 3, 4, 5, 6], false), ([0, 1], true), ([0, 1], true), ([0], true), ([], true), ([], true), ([], true), ([13], true), ([14], true), ([], true)]
def un4_4 : List (List Nat × Bool) := [([], false), ([0], false), ([0], false), ([], true), ([0, 1, 2, 3], false), ([0, 1, 2, 3], false), ([], true), ([], true), ([], true)]
def un6_6 : List (List Nat × Bool) := [([], false), ([], false), ([], false), ([], false), ([0, 1, 2, 3], true), ([0, 1, 2, 3, 4], true), ([0, 1, 2, 3, 4], true), ([0, 1, 2, 3, 4], true), ([0, 1, 2, 3], true), ([], true), ([], true)]
def un7_3 : List (List Nat × Bool) := [([], false), ([0], false), ([0], false), ([0, 1, 2], false), ([0, 1, 2], false), ([0, 1, 2], false), ([0], false), ([0, 1, 2, 3, 4, 5, 6], false), ([0, 1, 2, 3, 4, 5, 6], false), ([0, 1, 2, 3, 4, 5, 6, 7, 8], false), ([0, 1, 2, 3, 4, 5, 6, 7, 8], false), ([0, 1, 2, 3, 4, 5, 6, 7, 8], false), ([0], false), ([0, 1, 2, 3, 4, 5, 6, 7, 8, 9, 10, 11, 12], false), ([], true), ([], true), ([], true)]
def un7_9 : List (List Nat × Bool) := [([], true), ([0], true), ([0], true), ([0], true), ([0], true), ([0, 1, 2, 3, 4], true), ([0, 1, 2, 3, 4], true), ([0, 1, 2, 3, 4], true), ([0, 1, 2, 3, 4], true), ([0, 1, 2, 3, 4], true), ([0], true), ([], true), ([], true), ([], true)]
def un8_7 : List (List Nat × Bool) := [([], true), ([0], true), ([0], true), ([0], true), ([0], true), ([], true), ([0, 1, 2, 3, 4, 5], false), ([0, 1, 2, 3, 4, 5], false), ([0, 1, 2, 3, 4, 5], false), ([], true), ([], true)]
def un9_9 : List (List Nat × Bool) := [([], true), ([], true), ([0, 1], true), ([], true), ([], true), ([], true), ([0, 1, 2, 3, 4, 5], true), ([0, 1, 2, 3, 4, 5], true), ([0, 1, 2, 3, 4, 5], true), ([0, 1, 2, 3, 4, 5], true), ([], true), ([], true), ([], true), ([], true), ([12, 13], true), ([], true), ([], true), ([], true), ([12, 13, 14, 15, 16, 17], true), ([12, 13, 14, 15, 16, 17], true), ([12, 13, 14, 15, 16, 17], true), ([], true), ([], true), ([], true)]
def un10_6 : List (List Nat × Bool) := [([], true), ([], true), ([], true), ([], true), ([], true), ([], true), ([], true), ([], true), ([], true), ([], true), ([], true), ([], true), ([], true), ([], true), ([], true), ([], true), ([], true), ([], true), ([], true), ([], false), ([19], true), ([], true), ([], true), ([], true), ([], false), ([24], true), ([], true), ([], true), ([], true), ([], true), ([], true), ([], true), ([], true), ([], true), ([], true), ([], true), ([], true), ([], true), ([], true), ([], true)]
def un10_14 : List (List Nat × Bool) := [([], true), ([], true), ([], true), ([], true), ([], true), ([], true), ([], true), ([], true), ([], true), ([], true), ([], true), ([], true), ([], true), ([], true), ([], true), ([], true), ([], true), ([], true), ([], true), ([], true), ([], true), ([], true), ([], true), ([], false), ([23], true), ([], true), ([], true), ([], true), ([], false), ([28], true), ([], true), ([], true), ([], true), ([], true), ([], true), ([], true), ([], true), ([], true), ([], true), ([], true), ([], false), ([40], true), ([], true), ([], true), ([], true), ([], true), ([], true), ([], true)]
def un12_1 : List (List Nat × Bool) := [([], false), ([0], false), ([0, 1], false), ([0], false), ([], false), ([], false), ([], false), ([6], false), ([0, 1, 2, 3, 4, 5, 6, 7], false), ([7], true), ([], true)]
def un13_1 : List (List Nat × Bool) := [([], false), ([0], false), ([0, 1], false), ([0], false), ([], false), ([], false), ([], false), ([6], false), ([0, 1, 2, 3, 4, 5, 6, 7], false), ([7], true), ([], true)]
def un18_1 : List (List Nat × Bool) := [([], false), ([0], false), ([0, 1], false), ([0], false), ([], false), ([], false), ([], false), ([6], false), ([0, 1, 2, 3, 4, 5, 6, 7], false), ([7], true), ([], true)]
def un19_1 : List (List Nat × Bool) := [([], false), ([0], false), ([0, 1], false), ([0], false), ([], false), ([], false), ([], false), ([6], false), ([0, 1, 2, 3, 4, 5, 6, 7], false), ([7], true), ([], true)]
def un30_7 : List (List Nat × Bool) := [([], false), ([], false), ([0, 1], true), ([0, 1], true), ([0, 1, 2, 3], true), ([0, 1], true), ([0, 1], true), ([0, 1], true), ([], true), ([], true), ([], true)]
def un39_5 : List (List Nat × Bool) := [([], true), ([0], true), ([], true), ([], true), ([0, 1, 2, 3], true), ([0, 1, 2, 3, 4], true), ([0, 1, 2, 3], true), ([0, 1, 2, 3], true), ([], true), ([], true)]
def un46_1 : List (List Nat × Bool) := [([], true), ([], true), ([0, 1], true), ([], true), ([], true), ([], true), ([0, 1, 2, 3, 4, 5], true), ([0, 1, 2, 3, 4, 5], true), ([], true), ([], true)]
def un52_4 : List (List Nat × Bool) := [([], true), ([], true), ([], true), ([0, 1, 2], true), ([0, 1, 2], true), ([], true), ([], true), ([], true)]
def un54_1 : List (List Nat × Bool) := [([], false), ([0], false), ([], false), ([], false), ([0, 1, 2, 3], true), ([0, 1, 2, 3], true), ([0, 1, 2, 3], true), ([], true), ([0, 1, 2, 3, 4, 5, 6, 7], false), ([0, 1, 2, 3, 4, 5, 6, 7], false), ([0, 1, 2, 3, 4, 5, 6, 7], false), ([], true), ([], true)]
def un55_1 : List (List Nat × Bool) := [([], false), ([0], false), ([], false), ([], false), ([0, 1, 2, 3], true), ([0, 1, 2, 3], true), ([0, 1, 2, 3], true), ([], true), ([], true), ([], true)]
def un56_5 : List (List Nat × Bool) := [([], false), ([0], true), ([0], true), ([0, 1, 2], true), ([0], true), ([], true), ([], true)]
def un60_4 : List (List Nat × Bool) := [([], true), ([0], true), ([], true), ([], true), ([0, 1, 2, 3], true), ([0, 1, 2, 3, 4], true), ([0, 1, 2, 3], true), ([0, 1, 2, 3], true), ([], true)]
def un60_5 : List (List Nat × Bool) := [([], true), ([0], true), ([], true), ([], true), ([0, 1, 2, 3], true), ([0, 1, 2, 3, 4], true), ([0, 1, 2, 3], true), ([0, 1, 2, 3], true), ([], true), ([], true)]
def un65_1 : List (List Nat × Bool) := [([], false), ([0], false), ([0], false), ([0], false), ([0], false), ([0, 1, 2, 3, 4], true), ([0, 1, 2, 3, 4], true), ([0], true), ([], true), ([], true), ([], true)]
def un65_5 : List (List Nat × Bool) := [([], true), ([0], true), ([1], true), ([1], true), ([], true), ([], true), ([0, 1, 2, 3, 4, 5], true), ([0, 1, 2, 3, 4, 5, 6], true), ([0, 1, 2, 3, 4, 5], true), ([0, 1, 2, 3, 4, 5], true), ([], false), ([], false), ([10, 11], true), ([10, 11], true), ([], true)]
def un84_1 : List (List Nat × Bool) := [([], false), ([0], true), ([0], true), ([], true)]
def un84_2 : List (List Nat × Bool) := [([], true), ([0], true), ([0, 1], true), ([1, 2], true), ([1, 2], true), ([], true), ([], true)]
def un84_3 : List (List Nat × Bool) := [([], true), ([0], true), ([0], true), ([1, 2], true), ([1, 2], true), ([], true), ([], true), ([0, 1, 2, 3, 4, 5, 6], true), ([0, 1, 2, 3, 4, 5, 6, 7], true), ([0, 1, 2, 3, 4, 5, 6, 7], true), ([0, 1, 2, 3, 4, 5, 6, 8, 9], true), ([0, 1, 2, 3, 4, 5, 6, 8, 9], true), ([0, 1, 2, 3, 4, 5, 6], true), ([0, 1, 2, 3, 4, 5, 6], true), ([], true)]
def un84_4 : List (List Nat × Bool) := [([], true), ([0], true), ([0], true), ([1, 2], true), ([1, 2], true), ([], true), ([], true), ([], true), ([1, 2, 3, 4, 5, 6, 7], true), ([1, 2, 3, 4, 5, 6, 7], true), ([], true), ([], true)]
def un84_5 : List (List Nat × Bool) := [([], false), ([0], false), ([0], false), ([0], false), ([0], false), ([0, 1, 2, 3, 4], false), ([0, 1, 2, 3, 4, 5], false), ([0, 1, 2, 3, 4, 5, 6], false), ([0, 1, 2, 3, 4, 5, 7], false), ([0, 1, 2, 3, 4, 5, 7], false), ([0, 1, 2, 3, 4, 5], false), ([0, 1, 2, 3, 4, 5], false), ([], false), ([], false), ([0, 1, 2, 3, 4, 5, 6, 7, 8, 9, 10, 11, 12, 13], false), ([], true)]
def un84_6 : List (List Nat × Bool) := [([], true), ([0], true), ([0], true), ([1, 2], true), ([1, 2], true), ([], true), ([], true), ([0, 1, 2, 3, 4, 5, 6], true), ([0, 1, 2, 3, 4, 5, 6], true), ([], true), ([1, 2, 3, 4, 5, 6, 7, 8, 9], true), ([1, 2, 3, 4, 5, 6, 7, 8, 9], true), ([], true), ([], true)]
def un84_7 : List (List Nat × Bool) := [([], false), ([0], false), ([0, 1], true), ([0, 1], true), ([0, 1, 2, 3], true), ([0, 1, 2, 3], true), ([0, 1, 2, 3], true), ([0, 1, 2, 3], true), ([0, 1, 2, 3], true), ([0, 1, 2, 3, 4, 5, 6, 7, 8], true), ([0, 1, 2, 3, 4, 5, 6, 7, 8], true), ([0, 1, 2, 3], true), ([0, 1, 2, 3], true), ([0, 1, 2, 3, 4, 5, 6, 7, 8, 9, 10, 11, 12], true), ([0, 1, 2, 3, 4, 5, 6, 7, 8, 9, 10, 11, 12, 13], true), ([0, 1, 2, 3, 4, 5, 6, 7, 8, 9, 10, 11, 12, 13, 14], true), ([0, 1, 2, 3, 4, 5, 6, 7, 8, 9, 10, 11, 12, 13, 15], true), ([0, 1, 2, 3, 4, 5, 6, 7, 8, 9, 10, 11, 12, 13, 15], true), ([0, 1, 2, 3, 4, 5, 6, 7, 8, 9, 10, 11, 12, 13], true), ([0, 1, 2, 3, 4, 5, 6, 7, 8, 9, 10, 11, 12, 13], true), ([0, 1], true), ([1, 2, 3, 4, 5, 6, 7, 8, 9, 10, 11, 12, 13, 14, 15, 16, 17, 18, 19, 20], false), ([1, 2, 3, 4, 5, 6, 7, 8, 9, 10, 11, 12, 13, 14, 15, 16, 17, 18, 19, 20], false), ([], true), ([], true)]
end Go.Proofs.Ytpneoeoimdfjaaa
