import PyProof.Rows.All
import KE.OsRunLaw
import HandS.Head2
import Wide.All
import OpenK.AllK
import Wide.FinOn
import HandS.Base
import HandS.Call
import HandS.IsInst
import HandS.Exc
import HandS.ExcInit
import HandS.ExcIs
import HandS.ExcField
import KE.KExcIs
import HandS.List
import HandS.Comp
import HandS.Ends
import HandS.Dict
import HandS.Iter
import HandS.Text
import HandS.Words
import HandS.WordsList
import HandS.Walk
import HandS.Zip
import HandS.Lambda
import HandS.TupAny
import HandS.Style
import HandS.FStr
import HandS.RaiseMore
import HandS.Rev
import HandS.Conv
import HandS.Star
import HandS.More
import HandS.ReplaceDef
import KE.KTypeName
import KE.KExcInit
import HandS.ExcOwn
import HandS.TryMany
import KE.KTryMore
import PyProof.TupleIter
import HandS.HotCalls
import HandS.WordsExc
import HandS.EndTab
import KE.KDflt
import KE.KSuper
import HandS.GenList
import HandS.Property
import HandS.TupMul
import HandS.SortRule
import HandS.SortInts
import HandS.Strs
import HandS.SlotsOwn
import HandS.Spec
import HandS.DictComp
import HandS.Defaults
import HandS.Deep
import HandS.MakeKwOnly
import PyProof.InstNe
import HandS.ClsMeth
import HandS.ReplaceList
import PySem.Challenge.RW_lookedrows_k15_tables_refused
set_option Elab.async false
set_option linter.all false
set_option maxRecDepth 100000
namespace HeadOf
open PySem PySem.W PySem.Calls PyProof.Rows HeadRun
/-- the head: one run of the top, the objects that K tells read off the tree -/
theorem head_k {r : OpenRow} {q : Program} {loose : List PySem.Str} {d : DefRec} {kwd : List (PySem.Str × PySem.Expr)} {M : Nat} {K : Params → Frag} {as : List Addr} {ek : ∀ P, as = (K P).map (·.1)} {ts : List Addr} {H : Hook} (eH : H = kmHook K as ek ts)
    (e : opening r.prog = plainProg r.prog.main.scope.names) (f : ∀ s, fenceModules? r.prog s = some s) (hdef : defOf q r.name = some (d, kwd)) (hp : r.prog.theDef r.name = some (d.params, d.body, d.scope)) (hk : kwWritten? d.params.kwonlyargs d.params.kw_defaults = some kwd)
    (hwr : (!r.writes || r.records.isEmpty) = true) (k1 : r.wellSaid = true) (ok : (chainsOk q && opensWell r.prog && (frees r.toRowW && r.within.isEmpty)) = true) (hb : r.prog.bare)
    (run : ∀ (w : World) (os : OsState), (endF (stepQ (denQ tabQ) r.prog w) M r.prog w os).map (fun s => (looksF r.prog (boot_heap w.params) s.abs, seenQ q loose (importedModules r.prog.main.body) (fun s => xlAt q [] s && recOk r.toRowW.records s) s.abs, (((K w.params).map (·.1)).map (getT s), ts.map (getT s)))) = some (true, openGood q loose, ((K w.params).map fun x => some x.2, ts.map fun _ => some (tabObj #[]))))
    (hw : r.toRowW.promised) (call : WalkO q loose (XL q []) H.says r.toRowW d kwd fun f vs => PySem.call f vs) : r.Holds := by
  subst eH
  have left : LeftO r.prog q loose (fun s => xlAt q [] s && recOk r.toRowW.records s) (kmHook K as ek ts).obs (kmHook K as ek ts).val (M + 600) true :=
    left_one (M := M) e (Nat.ble_eq_true_of_le (by omega)) f (Nat.ble_eq_true_of_le (by omega)) fun w os => by
      have z := run w os
      rw [← ek w.params] at z
      have eo : (fun s : SharedT => (as.map (getT s), ts.map (getT s))) = fun s => (kmHook K as ek ts).obs s.abs := by
        funext s
        exact Prod.ext (List.map_congr_left fun a _ => getT_eq s a) (List.map_congr_left fun a _ => getT_eq s a)
      have eo2 : (fun s : SharedT => (looksF r.prog (boot_heap w.params) s.abs, seenQ q loose (importedModules r.prog.main.body) (fun s => xlAt q [] s && recOk r.toRowW.records s) s.abs, (as.map (getT s), ts.map (getT s)))) = fun s => (looksF r.prog (boot_heap w.params) s.abs, seenQ q loose (importedModules r.prog.main.body) (fun s => xlAt q [] s && recOk r.toRowW.records s) s.abs, (kmHook K as ek ts).obs s.abs) := by
        funext s
        rw [congrFun eo s]
        rfl
      rw [eo2] at z
      simp only [endQ_eq, seenQ_eq]
      exact z
  exact holds_open (r := r) (q := q) (loose := loose) (XP := XL q []) (YP := (kmHook K as ek ts).says) (d := d) (kwd := kwd) left (kmHook K as ek ts).of (kmHook K as ek ts).keeps (fun s z => xl_of s (Bool.and_eq_true_iff.mp z).1) XL.keeps hdef hp hk (fun s z => recFacts_of (Bool.and_eq_true_iff.mp z).2) hwr k1 ok hb hw call
def lo0 : List PySem.Str := [("_wall" : PySem.Str), ("__name__" : PySem.Str), ("TableError" : PySem.Str), ("InvalidColumns" : PySem.Str), ("InvalidRow" : PySem.Str), ("InvalidCondition" : PySem.Str), ("InvalidArguments" : PySem.Str), ("InvalidStatement" : PySem.Str), ("InvalidComparison" : PySem.Str), ("NotOpen" : PySem.Str), ("InvalidRule" : PySem.Str), ("NotCarried" : PySem.Str), ("InvalidCount" : PySem.Str), ("Missing" : PySem.Str), ("UnknownKey" : PySem.Str), ("NothingLeft" : PySem.Str), ("BOUND" : PySem.Str), ("MOST_LETTERS" : PySem.Str), ("MOST_COLUMNS" : PySem.Str), ("RESERVED" : PySem.Str), ("is_name" : PySem.Str), ("is_column" : PySem.Str), ("are_names" : PySem.Str), ("all_columns" : PySem.Str), ("is_whole" : PySem.Str), ("is_value" : PySem.Str), ("_is_single" : PySem.Str), ("is_bounded" : PySem.Str), ("_is_row" : PySem.Str), ("_checked_rows" : PySem.Str), ("Table" : PySem.Str), ("DEEPEST" : PySem.Str), ("SIGNS" : PySem.Str), ("_checked_parts" : PySem.Str), ("_places" : PySem.Str)]
def lo1 : List PySem.Str := [("_is_condition_itself" : PySem.Str), ("parts" : PySem.Str), ("values_in" : PySem.Str), ("Scope" : PySem.Str), ("MOST_OWN" : PySem.Str), ("MOST_IN_ALL" : PySem.Str), ("DEEPEST_STATEMENT" : PySem.Str), ("MOST_RETURNED" : PySem.Str), ("SHAPES" : PySem.Str), ("ENDS" : PySem.Str), ("SIDES" : PySem.Str), ("READ" : PySem.Str), ("READ_BY_ROW" : PySem.Str), ("LOOKS" : PySem.Str), ("FAILING" : PySem.Str), ("CHANGING" : PySem.Str), ("checked_statements" : PySem.Str), ("_is_list" : PySem.Str), ("_told" : PySem.Str), ("is_statement" : PySem.Str), ("_fits" : PySem.Str), ("_is_row_name" : PySem.Str), ("_is_end" : PySem.Str), ("_is_side" : PySem.Str), ("_is_range" : PySem.Str), ("_is_filter" : PySem.Str), ("_is_condition" : PySem.Str), ("_are_values" : PySem.Str), ("_are_cells" : PySem.Str), ("_is_further_column" : PySem.Str), ("_is_value" : PySem.Str), ("_is_own_value" : PySem.Str), ("_is_integer" : PySem.Str), ("_are_statements" : PySem.Str), ("CHECKS" : PySem.Str)]
def lo2 : List PySem.Str := [("values_of" : PySem.Str), ("inner_lists" : PySem.Str), ("fields_in" : PySem.Str), ("looks_of" : PySem.Str), ("late_index" : PySem.Str), ("_may_fail" : PySem.Str), ("has_any" : PySem.Str), ("have_any" : PySem.Str), ("MOST_ARGUMENTS" : PySem.Str), ("Procedure" : PySem.Str), ("Judge" : PySem.Str), ("moved" : PySem.Str), ("Board" : PySem.Str), ("is_unknown" : PySem.Str), ("_is_index" : PySem.Str), ("_checked_comparisons" : PySem.Str), ("_is_comparison" : PySem.Str), ("turned" : PySem.Str), ("comparison_text" : PySem.Str), ("_solved" : PySem.Str), ("_ring_behind" : PySem.Str), ("_bounds_of" : PySem.Str), ("System" : PySem.Str), ("follows" : PySem.Str), ("with_comparison" : PySem.Str), ("_nearer" : PySem.Str), ("with_all" : PySem.Str), ("cells_of" : PySem.Str), ("ascending" : PySem.Str), ("Chooser" : PySem.Str), ("branches" : PySem.Str), ("Broken" : PySem.Str), ("places_of" : PySem.Str), ("Scene" : PySem.Str), ("MOST_RULES" : PySem.Str)]
def lo3 : List PySem.Str := [("ROW_FORMS" : PySem.Str), ("NEXT_FORMS" : PySem.Str), ("_checked_rules" : PySem.Str), ("is_rule" : PySem.Str), ("_scene_of" : PySem.Str), ("_all_meet" : PySem.Str), ("_shows" : PySem.Str), ("_witness" : PySem.Str), ("Rules" : PySem.Str), ("_law_field" : PySem.Str), ("_law_draws" : PySem.Str), ("_law_pull" : PySem.Str), ("_law_any" : PySem.Str), ("_law_mixed" : PySem.Str), ("_law_like" : PySem.Str), ("_law_try" : PySem.Str), ("_law_tries" : PySem.Str), ("_law_reserved" : PySem.Str), ("_law_new_names" : PySem.Str), ("_law_near" : PySem.Str), ("_law_rows" : PySem.Str)]
def lo : List PySem.Str := lo0 ++ lo1 ++ lo2 ++ lo3
abbrev rw0 : OpenRow := OpenLaw.row PySem.Challenge.rw_lookedrows_k15_tables_refused
def qv : Program := view rw0.prog [139]
end HeadOf
set_option hygiene false in
local macro_rules | `(tactic| o_head $H:term) => `(tactic| exact hh)
set_option maxRecDepth 100000 in
open PySem PySem.W PyProof.Rows in
/-- it lays the constant that holds the objects -/
theorem HeadOf.pre (hh : HeadOf.rw0.Holds) : HeadOf.rw0.Holds := by
  k_head
namespace HeadOf
open PySem PySem.W PySem.Calls PyProof.Rows HeadRun
abbrev ts : List Addr := [1317, 1501]
def as0 : List Addr := [2, 3, 15, 17, 18, 20, 21, 22, 29, 31, 32, 34, 35, 36, 37, 38, 39, 42, 49, 50, 51, 54, 57, 62, 63, 65, 66, 68, 69, 70, 71, 72, 75, 78, 83, 84, 86, 87, 89, 90, 91, 92, 93, 96, 103, 104, 105, 108, 111, 116, 117, 119, 120, 122, 123, 124, 125, 126, 129, 132, 137, 138, 140, 141, 143, 144, 145, 146, 147, 150, 157, 158, 159, 162, 165, 170, 171, 173, 174, 176, 177, 178, 179, 180, 183, 186, 191, 192, 194, 195]
def as1 : List Addr := [197, 198, 199, 200, 201, 204, 207, 212, 213, 215, 216, 218, 219, 220, 221, 222, 225, 232, 234, 235, 237, 238, 239, 240, 241, 242, 245, 248, 253, 254, 256, 257, 259, 260, 261, 262, 263, 266, 273, 275, 276, 278, 279, 280, 281, 282, 283, 286, 287, 290, 291, 292, 294, 295, 297, 298, 299, 302, 303, 304, 306, 307, 309, 310, 311, 313, 314, 316, 317, 318, 320, 321, 323, 324, 325, 327, 328, 330, 331, 332, 334, 335, 337, 338, 339, 342, 343, 344, 347, 348]
def as2 : List Addr := [356, 357, 358, 360, 361, 363, 364, 365, 367, 368, 370, 371, 372, 373, 374, 375, 377, 378, 380, 381, 382, 383, 385, 386, 388, 389, 390, 393, 394, 395, 397, 398, 400, 401, 402, 404, 405, 407, 408, 409, 412, 413, 414, 416, 417, 419, 420, 421, 423, 424, 426, 427, 428, 430, 431, 433, 434, 435, 437, 438, 440, 441, 442, 443, 444, 445, 446, 449, 450, 453, 454, 455, 457, 458, 460, 461, 462, 464, 465, 467, 468, 469, 471, 472, 474, 475, 476, 479, 480, 488]
def as3 : List Addr := [489, 490, 492, 493, 495, 496, 497, 499, 500, 502, 503, 504, 507, 508, 509, 510, 511, 512, 513, 516, 517, 518, 519, 520, 521, 522, 523, 524, 525, 526, 527, 528, 529, 530, 531, 532, 533, 534, 535, 538, 539, 540, 542, 543, 545, 546, 547, 550, 551, 552, 555, 556, 557, 559, 560, 562, 563, 564, 566, 567, 569, 570, 571, 573, 574, 576, 577, 578, 580, 581, 583, 584, 585, 588, 589, 590, 592, 593, 595, 596, 597, 599, 600, 602, 603, 604, 607, 608, 609, 611]
def as4 : List Addr := [612, 614, 615, 616, 618, 619, 621, 622, 623, 625, 626, 628, 629, 630, 632, 633, 635, 636, 637, 639, 640, 642, 643, 644, 646, 647, 649, 650, 651, 652, 655, 656, 657, 659, 660, 662, 663, 664, 667, 668, 669, 672, 673, 674, 677, 678, 679, 682, 683, 684, 687, 688, 689, 692, 693, 701, 703, 704, 706, 707, 708, 710, 711, 713, 714, 715, 716, 718, 719, 721, 722, 723, 724, 726, 727, 729, 730, 731, 732, 734, 735, 737, 738, 739, 740, 742, 743, 745, 746, 747]
def as5 : List Addr := [749, 750, 752, 753, 754, 756, 757, 759, 760, 761, 763, 764, 766, 767, 768, 770, 771, 773, 774, 775, 777, 778, 780, 781, 782, 784, 785, 787, 788, 789, 791, 792, 794, 795, 796, 797, 798, 799, 800, 810, 812, 813, 815, 816, 817, 819, 820, 822, 823, 824, 826, 827, 829, 830, 831, 833, 834, 836, 837, 838, 840, 841, 843, 844, 845, 846, 847, 848, 849, 852, 854, 855, 857, 858, 866, 867, 869, 870, 872, 873, 874, 876, 877, 879, 880, 881, 883, 884, 886, 887]
def as6 : List Addr := [888, 891, 892, 893, 895, 896, 898, 899, 900, 902, 903, 905, 906, 907, 909, 910, 912, 913, 914, 916, 917, 919, 920, 921, 923, 924, 926, 927, 928, 931, 932, 933, 934, 935, 936, 937, 940, 942, 943, 945, 946, 947, 950, 951, 952, 955, 956, 957, 959, 960, 962, 963, 964, 966, 967, 969, 970, 971, 973, 974, 976, 977, 978, 980, 981, 983, 984, 985, 987, 988, 990, 991, 992, 994, 995, 997, 998, 1006, 1007, 1008, 1010, 1011, 1013, 1014, 1015, 1017, 1018, 1020, 1021, 1022]
def as7 : List Addr := [1025, 1026, 1027, 1029, 1030, 1032, 1033, 1034, 1035, 1037, 1038, 1040, 1041, 1042, 1044, 1045, 1047, 1048, 1049, 1052, 1053, 1054, 1057, 1058, 1059, 1061, 1062, 1064, 1065, 1066, 1068, 1069, 1071, 1072, 1073, 1076, 1077, 1078, 1080, 1081, 1083, 1084, 1085, 1087, 1088, 1090, 1091, 1092, 1095, 1096, 1097, 1099, 1100, 1102, 1103, 1104, 1107, 1108, 1109, 1111, 1112, 1114, 1115, 1116, 1117, 1118, 1119, 1120, 1123, 1125, 1126, 1128, 1129, 1130, 1132, 1133, 1135, 1136, 1137, 1139, 1140, 1142, 1143, 1144, 1146, 1147, 1149, 1150, 1151, 1154]
def as8 : List Addr := [1155, 1156, 1159, 1160, 1161, 1168, 1170, 1171, 1173, 1174, 1175, 1177, 1178, 1180, 1181, 1182, 1184, 1185, 1187, 1188, 1189, 1190, 1191, 1194, 1196, 1197, 1199, 1200, 1201, 1208, 1210, 1211, 1213, 1214, 1215, 1216, 1217, 1218, 1221, 1224, 1225, 1233, 1235, 1236, 1238, 1239, 1240, 1242, 1243, 1245, 1246, 1247, 1248, 1249, 1250, 1252, 1253, 1255, 1256, 1257, 1258, 1259, 1260, 1262, 1263, 1265, 1266, 1267, 1269, 1270, 1272, 1273, 1274, 1275, 1276, 1277, 1278, 1281, 1282, 1283, 1285, 1286, 1288, 1289, 1290, 1293, 1294, 1295, 1297, 1298]
def as9 : List Addr := [1300, 1301, 1302, 1304, 1305, 1307, 1308, 1309, 1311, 1312, 1314, 1315, 1316, 1319, 1320, 1328, 1329, 1330, 1331, 1333, 1334, 1336, 1337, 1338, 1340, 1341, 1343, 1344, 1345, 1346, 1347, 1348, 1350, 1351, 1353, 1354, 1355, 1356, 1358, 1359, 1361, 1362, 1363, 1365, 1366, 1368, 1369, 1370, 1372, 1373, 1375, 1376, 1377, 1379, 1380, 1382, 1383, 1384, 1386, 1387, 1389, 1390, 1391, 1394, 1395, 1396, 1398, 1399, 1401, 1402, 1403, 1405, 1406, 1408, 1409, 1410, 1412, 1413, 1415, 1416, 1417, 1418, 1419, 1420, 1421, 1424, 1426, 1427, 1429, 1430]
def as10 : List Addr := [1431, 1433, 1434, 1436, 1437, 1438, 1440, 1441, 1443, 1444, 1445, 1447, 1448, 1450, 1451, 1452, 1454, 1455, 1457, 1458, 1459, 1462, 1463, 1464, 1466, 1467, 1469, 1470, 1471, 1474, 1475, 1476, 1478, 1479, 1481, 1482, 1483, 1486, 1487, 1488, 1490, 1491, 1493, 1494, 1495, 1498, 1499, 1500, 1502, 1503, 1505, 1506]
def as : List Addr := as0 ++ as1 ++ as2 ++ as3 ++ as4 ++ as5 ++ as6 ++ as7 ++ as8 ++ as9 ++ as10
def d0 : DefRec := HandSHeadRun.topDef rw0.prog 139
theorem b1 : opening rw0.prog = plainProg rw0.prog.main.scope.names := by kernel_rfl
theorem b3 (s : Shared) : fenceModules? rw0.prog s = some s := by kernel_rfl
theorem a1 : defOf qv rw0.name = some (d0, []) := by kernel_rfl
theorem a2 : rw0.prog.theDef rw0.name = some (d0.params, d0.body, d0.scope) := by kernel_rfl
theorem a3 : kwWritten? d0.params.kwonlyargs d0.params.kw_defaults = some [] := by kernel_rfl
theorem a4 : (!rw0.writes || rw0.records.isEmpty) = true := by kernel_rfl
theorem a6 : (chainsOk qv && opensWell rw0.prog && (frees rw0.toRowW && rw0.within.isEmpty)) = true := by kernel_rfl
theorem a7 : rw0.prog.bare := ⟨by kernel_rfl, by kernel_rfl, by kernel_rfl, by kernel_rfl, by kernel_rfl, by decide +kernel⟩
theorem ek (P : Params) : as = (pre.heap_1 P).map (·.1) := by kernel_rfl
def runAt (w : World) : Prop := ∀ os : OsState, (endF (stepQ (denQ tabQ) rw0.prog w) 12098 rw0.prog w os).map (fun s => (looksF rw0.prog (boot_heap w.params) s.abs, seenQ qv lo (importedModules rw0.prog.main.body) (fun s => xlAt qv [] s && recOk rw0.toRowW.records s) s.abs, (((pre.heap_1 w.params).map (·.1)).map (getT s), ts.map (getT s)))) = some (true, openGood qv lo, ((pre.heap_1 w.params).map fun x => some x.2, ts.map fun _ => some (tabObj #[])))
set_option maxRecDepth 100000 in
theorem run_false (w : World) : runAt (w.withFollow "special-get-raises" false) := by
  intro os
  kernel_rfl
set_option maxRecDepth 100000 in
theorem run_true (w : World) : runAt (w.withFollow "special-get-raises" true) := by
  intro os
  kernel_rfl
theorem run (w : World) : runAt w := byRow2 "special-get-raises" run_false run_true w
theorem said (a5 : rw0.wellSaid = true) (hw : rw0.toRowW.promised) (call : WalkO qv lo (XL qv []) (kmHook pre.heap_1 as ek ts).says rw0.toRowW d0 [] fun f vs => PySem.call f vs) : rw0.Holds :=
  head_k (r := rw0) (q := qv) (loose := lo) (d := d0) (kwd := []) (M := 12098) (K := pre.heap_1) (as := as) (ek := ek) (ts := ts) rfl b1 b3 a1 a2 a3 a4 a5 a6 a7 run hw call
end HeadOf
namespace DL
open PySem PySem.Spec PyProof.Rows L2
/-- the value's type: as the library has it, or an error of an own class, made and not raised -/
def TyE (K : PySem.W.Frag) (H : Hp) (x : V) (t : Value) : Prop := TyX K H x t ∨ ∃ (a C dx : Addr) (fs : List (Str × V)), x = .ref a ∧ t = .ref C ∧ H a = some (exo a C (some dx)) ∧ H dx = some (exd dx fs) ∧ ExcC K C
section
variable {X : Cx} {pins : List (Addr × Obj)} {σ : L2.St} {H : Hp} {s : Shared}
theorem kit_ofE {x : V} {u t : Value} (I : Inv X pins σ H s) (rx : RelV x u) (ty : TyE X.K H x t) : ∃ P : Heap → Prop, PySem.W.KitX X.K u t P ∧ P s.heap ∧ u ≠ .builtin "__main__.__loader__#opaque" := by
  rcases ty with ty | ⟨a, C, dx, fs, rfl, rfl, ea, ed, T⟩
  · exact kit_of I rx ty
  · obtain rfl : u = Value.ref a := rx
    obtain ⟨t1, ho⟩ := exo_at I.hok ea
    obtain ⟨mA, hns, rel⟩ := exd_at I.hok ed
    obtain ⟨oD, _, _, hoD, _, _⟩ := hns.count (within_of rel)
    have J : PySem.W.InstAt s.heap a { cls := .ref C, dict := some dx, data := .fields #[.ref t1, .none, .none, .none, .bool false, .none] } C (some oD) := ⟨ho, rfl, rfl, hoD⟩
    obtain ⟨cd, hc, _⟩ := PySem.W.any_some T.hd
    exact ⟨_, PySem.W.kitx_exc (by rw [hc]; rfl) T.hg T.hk T.hs T.ha T.hn T.ht T.hm, J, fun z => nomatch z⟩
end
/-- isinstance(x, c) -/
def rIsE1 (K : PySem.W.Frag) : List V → Hp → VK → Prop := fun xs H Q => ∃ (x c : V) (t u : Value) (b : Bool), xs = [x, c] ∧ ClsV c u ∧ TyE K H x t ∧ PySem.W.kitOne K t u = some b ∧ Q (.bl b) H
/-- isinstance(x, (c1, c2, ..)) -/
def rIsET (K : PySem.W.Frag) : List V → Hp → VK → Prop := fun xs H Q => ∃ (x : V) (tp : Addr) (cs : List V) (t : Value) (us : List Value) (b : Bool), xs = [x, .ref tp] ∧ H tp = some (.tup cs) ∧ Paired ClsV cs us ∧ TyE K H x t ∧ PySem.W.kitAny K t us = some b ∧ Q (.bl b) H
section
variable {X : Cx}
theorem call_isE1 : CallR X (.builtin "isinstance") (rIsE1 X.K) := by
  intro pins s σ H xs us Q I r h
  obtain ⟨x, c, t, u, b, rfl, k, ty, e, q⟩ := h
  obtain ⟨u1, u2, rfl, r1, r2⟩ := vals2 r
  have e2 := k.eq r2
  subst e2
  obtain ⟨P, Z, p, hx⟩ := kit_ofE I r1 ty
  refine PySem.W.kia_one Z I.kIn p e hx fun tk => ?_
  exact ⟨.bl b, H, I.tok tk, rfl, q⟩
theorem call_isET : CallR X (.builtin "isinstance") (rIsET X.K) := by
  intro pins s σ H xs us Q I r h
  obtain ⟨x, tp, cs, t, ws, b, rfl, hT, k, ty, e, q⟩ := h
  obtain ⟨u1, u2, rfl, r1, r2⟩ := vals2 r
  obtain rfl : u2 = Value.ref tp := r2
  obtain ⟨P, Z, p, hx⟩ := kit_ofE I r1 ty
  have hh : ObjOk X.prog X.w H s.heap tp (.tup cs) := I.hok tp _ hT
  obtain ⟨_, its, rv, o, h1, h2, n, h3⟩ := hh
  have e3 := ClsV.all k rv
  subst e3
  obtain ⟨oc, od, dt, sl⟩ := o
  simp only at h2 h3
  subst h2 h3
  refine PySem.W.kia_tup Z I.kIn p h1 e hx fun tk => ?_
  exact ⟨.bl b, H, I.tok tk, rfl, q⟩
end
/-- the fields that errors bear -/
def errAll : List Str := ["code", "path", "index", "given", "witness", "key", "name", "word", "most", "limit"]
def noAtt (K : PySem.W.Frag) (C : Addr) (f : Str) : Bool := match PySem.W.findIn K (.ref C) f with
  | some none => true
  | _ => false
def kitNo (K : PySem.W.Frag) (C : Addr) (T : String) : Bool := match PySem.W.kitOne K (.ref C) (.type T) with
  | some false => true
  | _ => false
structure ErrV (K : PySem.W.Frag) (c : Str) (C : Addr) : Prop where
  at_ : PySem.W.nsIn K mainGlobals c = some (some (.ref C))
  exc : L2.ExcC K C
  nof : (errAll.all fun f => noAtt K C f) = true
  kit : ((["int", "str", "bool", "tuple", "list", "dict"] : List String).all fun T => kitNo K C T) = true
theorem ErrV.no {K : PySem.W.Frag} {c : Str} {C : Addr} (T : ErrV K c C) {f : Str} (h : f ∈ errAll) : PySem.W.findIn K (.ref C) f = some none := by
  have e := List.all_eq_true.mp T.nof f h
  unfold noAtt at e
  split at e
  · assumption
  · cases e
theorem ErrV.kin {K : PySem.W.Frag} {c : Str} {C : Addr} (T : ErrV K c C) {n : String} (h : n ∈ (["int", "str", "bool", "tuple", "list", "dict"] : List String)) : PySem.W.kitOne K (.ref C) (.type n) = some false := by
  have e := List.all_eq_true.mp T.kit n h
  unfold kitNo at e
  split at e
  · assumption
  · cases e
end DL
set_option maxHeartbeats 4000000
namespace DL
open PySem PySem.Spec PyProof.Rows L2
/-- the tables of code objects that may grow, each with the name that its own bear -/
class Tabs where
  ts : List (Addr × Str)
  uq : ∀ p ∈ ts, ∀ r ∈ ts, p.1 = r.1 → p.2 = r.2
/-- where the instance stands that a def is making -/
class Me where
  me : Addr
variable [Tabs] [Me]
omit [Me] in
inductive Dt where
  | non | bl (b : Bool) | int (i : Int) | str (x : Str) | tup (l : List Dt) | lst (l : List Dt) | bag
  /-- a dict that never changes: its keys, its values -/
  | dic (ks : List Key) (l : List Dt)
  /-- an instance of an own class that never changes: the class's name, its attributes -/
  | ins (c : Str) (ks : List Str) (l : List Dt)
  /-- an error of an own class, made and not raised: the class's name, its attributes -/
  | err (c : Str) (ks : List Str) (l : List Dt)
  /-- a list that is lent: it is read alone, while its lender keeps it -/
  | old (l : List Dt)
omit [Me] in
abbrev Ext (G G' : Hp) : Prop := ∀ a o, G a = some o → G' a = some o
theorem Ext.refl (G : Hp) : Ext G G := fun _ _ h => h
theorem Ext.trans {G G1 G2 : Hp} (a : Ext G G1) (b : Ext G1 G2) : Ext G G2 := fun x o h => b x o (a x o h)
theorem Ext.new {G : Hp} {p : Addr} {o : HO} (h : G p = none) : Ext G (upd G p o) := fun a u e => by
  rw [upd_ne (ne_of_none e h)]
  exact e
theorem ext_t {K : PySem.W.Frag} {H H' : Hp} {a : Addr} {xs : List V} (e : Ext H H') (h : SqT K H a xs) : SqT K H' a xs := by
  rcases h with (h | ⟨o, h⟩) | h
  · exact .inl (.inl (e _ _ h))
  · exact .inl (.inr ⟨o, e _ _ h⟩)
  · exact .inr h
omit [Me] in
/-- what the fixed part says of an own class whose instances are data -/
structure InsC (K : PySem.W.Frag) (c : Str) (C : Addr) : Prop where
  at_ : PySem.W.nsIn K mainGlobals c = some (some (.ref C))
  cls : L2.Cls K C
  ha : PySem.W.findIn K (.ref C) "__class__" = some (some (.builtin "object.__class__"))
  hn : PySem.W.specialIn K (.builtin "object.__class__") "__get__" = some (some (.builtin "getset_descriptor.__get__"))
  ht : PySem.W.takesIn K (.builtin "object.__class__") = some true
  hm : PySem.W.mroIn K C (.type "object") = some true
  kit : ∀ T ∈ (["int", "str", "bool", "tuple", "list", "dict"] : List String), PySem.W.kitOne K (.ref C) (.type T) = some false
section
variable (K : PySem.W.Frag) (β : Addr)
omit [Me] in
mutual
def IsD (G : Hp) : Dt → V → Prop
  | .non, v => v = .non
  | .bl b, v => v = .bl b
  | .int i, v => v = .int i
  | .str x, v => v = .str x
  | .bag, v => v = .ref β
  | .tup l, v => ∃ a vs, v = .ref a ∧ SqT K G a vs ∧ IsL G l vs
  | .lst l, v => ∃ a vs, v = .ref a ∧ G a = some (.lst vs) ∧ IsL G l vs
  | .dic ks l, v => ∃ a vs, v = .ref a ∧ G a = some (.dK (ks.zip vs)) ∧ ks.length = l.length ∧ IsL G l vs
  | .ins c ks l, v => ∃ a C dx vs, v = .ref a ∧ InsC K c C ∧ G a = some (.ins C dx (ks.zip vs)) ∧ ks.length = l.length ∧ IsL G l vs
  | .err c ks l, v => ∃ a C dx vs, v = .ref a ∧ ErrV K c C ∧ G a = some (exo a C (some dx)) ∧ G dx = some (exd dx (ks.zip vs)) ∧ ks.length = l.length ∧ IsL G l vs
  | .old l, v => ∃ a o vs, v = .ref a ∧ G a = some (.frz o (.lst vs)) ∧ IsL G l vs
def IsL (G : Hp) : List Dt → List V → Prop
  | [], vs => vs = []
  | d :: l, vs => ∃ v r, vs = v :: r ∧ IsD G d v ∧ IsL G l r
end
end
section
variable {K : PySem.W.Frag} {β : Addr}
mutual
theorem IsD.mono {G G' : Hp} (e : Ext G G') : ∀ (d : Dt) (v : V), IsD K β G d v → IsD K β G' d v
  | .non, _, h => h
  | .bl _, _, h => h
  | .int _, _, h => h
  | .str _, _, h => h
  | .bag, _, h => h
  | .tup l, v, h => by
    unfold IsD at h ⊢
    obtain ⟨a, vs, rfl, h1, h2⟩ := h
    exact ⟨a, vs, rfl, ext_t e h1, IsL.mono e l vs h2⟩
  | .lst l, v, h => by
    unfold IsD at h ⊢
    obtain ⟨a, vs, rfl, h1, h2⟩ := h
    exact ⟨a, vs, rfl, e _ _ h1, IsL.mono e l vs h2⟩
  | .dic ks l, v, h => by
    unfold IsD at h ⊢
    obtain ⟨a, vs, rfl, h1, h3, h2⟩ := h
    exact ⟨a, vs, rfl, e _ _ h1, h3, IsL.mono e l vs h2⟩
  | .ins c ks l, v, h => by
    unfold IsD at h ⊢
    obtain ⟨a, C, dx, vs, rfl, h0, h1, h3, h2⟩ := h
    exact ⟨a, C, dx, vs, rfl, h0, e _ _ h1, h3, IsL.mono e l vs h2⟩
  | .err c ks l, v, h => by
    unfold IsD at h ⊢
    obtain ⟨a, C, dx, vs, rfl, h0, h1, h4, h3, h2⟩ := h
    exact ⟨a, C, dx, vs, rfl, h0, e _ _ h1, e _ _ h4, h3, IsL.mono e l vs h2⟩
  | .old l, v, h => by
    unfold IsD at h ⊢
    obtain ⟨a, o, vs, rfl, h1, h2⟩ := h
    exact ⟨a, o, vs, rfl, e _ _ h1, IsL.mono e l vs h2⟩
theorem IsL.mono {G G' : Hp} (e : Ext G G') : ∀ (l : List Dt) (vs : List V), IsL K β G l vs → IsL K β G' l vs
  | [], _, h => h
  | d :: l, vs, h => by
    unfold IsL at h ⊢
    obtain ⟨v, r, rfl, h1, h2⟩ := h
    exact ⟨v, r, rfl, IsD.mono e d v h1, IsL.mono e l r h2⟩
end
variable {G : Hp}
theorem is_non {v : V} : IsD K β G .non v ↔ v = .non := by unfold IsD; rfl
theorem is_bl {v : V} {b : Bool} : IsD K β G (.bl b) v ↔ v = .bl b := by unfold IsD; rfl
theorem is_int {v : V} {b : Int} : IsD K β G (.int b) v ↔ v = .int b := by unfold IsD; rfl
theorem is_str {v : V} {b : Str} : IsD K β G (.str b) v ↔ v = .str b := by unfold IsD; rfl
theorem is_bag {v : V} : IsD K β G .bag v ↔ v = .ref β := by unfold IsD; rfl
theorem is_tup {v : V} {l : List Dt} : IsD K β G (.tup l) v ↔ ∃ a vs, v = .ref a ∧ SqT K G a vs ∧ IsL K β G l vs := by conv => lhs; unfold IsD
theorem is_lst {v : V} {l : List Dt} : IsD K β G (.lst l) v ↔ ∃ a vs, v = .ref a ∧ G a = some (.lst vs) ∧ IsL K β G l vs := by conv => lhs; unfold IsD
theorem is_dic {v : V} {ks : List Key} {l : List Dt} : IsD K β G (.dic ks l) v ↔ ∃ a vs, v = .ref a ∧ G a = some (.dK (ks.zip vs)) ∧ ks.length = l.length ∧ IsL K β G l vs := by conv => lhs; unfold IsD
theorem is_ins {v : V} {c : Str} {ks : List Str} {l : List Dt} : IsD K β G (.ins c ks l) v ↔ ∃ a C dx vs, v = .ref a ∧ InsC K c C ∧ G a = some (.ins C dx (ks.zip vs)) ∧ ks.length = l.length ∧ IsL K β G l vs := by conv => lhs; unfold IsD
theorem is_err {v : V} {c : Str} {ks : List Str} {l : List Dt} : IsD K β G (.err c ks l) v ↔ ∃ a C dx vs, v = .ref a ∧ ErrV K c C ∧ G a = some (exo a C (some dx)) ∧ G dx = some (exd dx (ks.zip vs)) ∧ ks.length = l.length ∧ IsL K β G l vs := by conv => lhs; unfold IsD
theorem is_old {v : V} {l : List Dt} : IsD K β G (.old l) v ↔ ∃ a o vs, v = .ref a ∧ G a = some (.frz o (.lst vs)) ∧ IsL K β G l vs := by conv => lhs; unfold IsD
theorem isl_nil {vs : List V} : IsL K β G [] vs ↔ vs = [] := by unfold IsL; rfl
theorem isl_cons {vs : List V} {d : Dt} {l : List Dt} : IsL K β G (d :: l) vs ↔ ∃ v r, vs = v :: r ∧ IsD K β G d v ∧ IsL K β G l r := by conv => lhs; unfold IsL
theorem IsL.len : ∀ {l : List Dt} {vs : List V}, IsL K β G l vs → vs.length = l.length
  | [], vs, h => by rw [isl_nil] at h; rw [h]; rfl
  | d :: l, vs, h => by
    obtain ⟨v, r, rfl, _, h2⟩ := isl_cons.mp h
    simp [IsL.len h2]
theorem IsL.get : ∀ {l : List Dt} {vs : List V} {i : Nat} {d : Dt}, IsL K β G l vs → l[i]? = some d → ∃ v, vs[i]? = some v ∧ IsD K β G d v
  | [], _, _, _, _, e => by simp at e
  | d :: l, vs, 0, d', h, e => by
    obtain ⟨v, r, rfl, h1, h2⟩ := isl_cons.mp h
    simp at e; subst e
    exact ⟨v, rfl, h1⟩
  | d :: l, vs, i + 1, d', h, e => by
    obtain ⟨v, r, rfl, h1, h2⟩ := isl_cons.mp h
    obtain ⟨u, e1, e2⟩ := IsL.get (i := i) h2 (by simpa using e)
    exact ⟨u, by simpa using e1, e2⟩
theorem IsL.set : ∀ {l : List Dt} {vs : List V} (i : Nat) {d : Dt} {v : V}, IsL K β G l vs → IsD K β G d v → IsL K β G (l.set i d) (vs.set i v)
  | [], vs, i, d, v, h, _ => by rw [isl_nil] at h; subst h; simp [isl_nil]
  | e :: l, vs, 0, d, v, h, q => by
    obtain ⟨u, r, rfl, h1, h2⟩ := isl_cons.mp h
    exact isl_cons.mpr ⟨v, r, rfl, q, h2⟩
  | e :: l, vs, i + 1, d, v, h, q => by
    obtain ⟨u, r, rfl, h1, h2⟩ := isl_cons.mp h
    exact isl_cons.mpr ⟨u, r.set i v, rfl, h1, IsL.set i h2 q⟩
theorem IsL.append : ∀ {l m : List Dt} {vs us : List V}, IsL K β G l vs → IsL K β G m us → IsL K β G (l ++ m) (vs ++ us)
  | [], m, vs, us, h, q => by rw [isl_nil] at h; subst h; exact q
  | d :: l, m, vs, us, h, q => by
    obtain ⟨u, r, rfl, h1, h2⟩ := isl_cons.mp h
    exact isl_cons.mpr ⟨u, r ++ us, rfl, h1, IsL.append h2 q⟩
theorem IsL.take : ∀ {l : List Dt} {vs : List V} (n : Nat), IsL K β G l vs → IsL K β G (l.take n) (vs.take n)
  | l, vs, 0, h => by simp [isl_nil]
  | [], vs, n + 1, h => by rw [isl_nil] at h; subst h; simp [isl_nil]
  | d :: l, vs, n + 1, h => by
    obtain ⟨u, r, rfl, h1, h2⟩ := isl_cons.mp h
    exact isl_cons.mpr ⟨u, r.take n, rfl, h1, IsL.take n h2⟩
theorem IsL.drop : ∀ {l : List Dt} {vs : List V} (n : Nat), IsL K β G l vs → IsL K β G (l.drop n) (vs.drop n)
  | l, vs, 0, h => h
  | [], vs, n + 1, h => by rw [isl_nil] at h; subst h; simp [isl_nil]
  | d :: l, vs, n + 1, h => by
    obtain ⟨u, r, rfl, h1, h2⟩ := isl_cons.mp h
    exact IsL.drop n h2
theorem IsL.snoc {l : List Dt} {vs : List V} {d : Dt} {v : V} (h : IsL K β G l vs) (q : IsD K β G d v) : IsL K β G (l ++ [d]) (vs ++ [v]) :=
  h.append (isl_cons.mpr ⟨v, [], rfl, q, isl_nil.mpr rfl⟩)
theorem IsL.txts : ∀ {ss : List Str}, IsL K β G (ss.map Dt.str) (ss.map V.str)
  | [] => isl_nil.mpr rfl
  | s :: r => isl_cons.mpr ⟨_, _, rfl, is_str.mpr rfl, IsL.txts⟩
theorem IsL.ints : ∀ {ss : List Int}, IsL K β G (ss.map Dt.int) (ss.map V.int)
  | [] => isl_nil.mpr rfl
  | s :: r => isl_cons.mpr ⟨_, _, rfl, is_int.mpr rfl, IsL.ints⟩
end
omit [Me] in
/-- no table, no code object -/
def Nx (p : Addr) (o : HO) : Prop := (∀ ps, o ≠ .tbl ps) ∧ ∀ q, o ≠ LamX.CodeO p q
theorem nx_lst {p : Addr} {vs : List V} : Nx p (.lst vs) := by
  refine ⟨(fun ps z => by cases z), fun q z => ?_⟩
  have z' : HO.lst vs = HO.ext _ := z
  cases z'
theorem nx_ins {p : Addr} {C dx : Addr} {fs : List (Str × V)} : Nx p (.ins C dx fs) := by
  refine ⟨(fun ps z => by cases z), fun q z => ?_⟩
  have z' : HO.ins C dx fs = HO.ext _ := z
  cases z'
omit [Me] in
/-- obj: the instance that is being made -/
inductive Slo where
  | dat (d : Dt)
  /-- a list, or with its keys a dict, that nobody else knows of -/
  | mut (kk : Option (List Key)) (l : List Dt) | obj (c : Str) (ks : List Str) (l : List Dt)
  /-- a list of lambdas, with their code objects, that bear the name q -/
  | fns (l : List (Addr × Addr)) (q : Str)
omit [Tabs] [Me] in
abbrev Slo.own (l : List Dt) : Slo := .mut none l
omit [Tabs] [Me] in
/-- what stands in the heap for it -/
def ownO : Option (List Key) → List V → HO
  | none, vs => .lst vs
  | some ks, vs => .dK (ks.zip vs)
omit [Me] in
structure Sta where
  sl : List (Option Slo)
  bag : List Dt
omit [Me] in
def FnsAt (σ : L2.St) (G : Hp) (i : Nat) (l : List (Addr × Addr)) (q : Str) : Prop := ∃ L, σ[i]? = some (some (V.ref L)) ∧ G L = some (.lst (l.map fun p => V.ref p.1)) ∧ ∀ p ∈ l, G p.2 = some (LamX.CodeO p.2 q)
theorem FnsAt.mono {σ : L2.St} {G G' : Hp} {i : Nat} {l : List (Addr × Addr)} {q : Str} (h : FnsAt σ G i l q) (e : Ext G G') : FnsAt σ G' i l q :=
  let ⟨L, h1, h2, h3⟩ := h
  ⟨L, h1, e _ _ h2, fun p hp => e _ _ (h3 p hp)⟩
theorem FnsAt.of {σ σ' : L2.St} {G : Hp} {i : Nat} {l : List (Addr × Addr)} {q : Str} (h : FnsAt σ G i l q) (e : σ'[i]? = σ[i]?) : FnsAt σ' G i l q := by
  unfold FnsAt at h ⊢
  rw [e]
  exact h
omit [Me] in
def TabG (H G : Hp) (a : Addr) (q : Str) : Prop := ∃ ps : Array Value, H a = some (.tbl ps) ∧ TriplesOk ps.toList ∧ ∀ (pos : Pos) (cv : Value), codeAmong pos ps.toList = some cv → ∃ c, cv = .ref c ∧ G c = some (LamX.CodeO c q)
theorem TabG.of {H G H' G' : Hp} {a : Addr} {q : Str} (t : TabG H G a q) (h : H' a = H a) (e : Ext G G') : TabG H' G' a q := by
  obtain ⟨ps, h1, h2, h3⟩ := t
  refine ⟨ps, h.trans h1, h2, fun pos cv z => ?_⟩
  obtain ⟨c, e1, e2⟩ := h3 pos cv z
  exact ⟨c, e1, e _ _ e2⟩
theorem TabG.ne {H G : Hp} {a p : Addr} {q : Str} (t : TabG H G a q) (h : H p = none) : a ≠ p := by
  obtain ⟨ps, h1, _⟩ := t
  exact ne_of_none h1 h
theorem TabG.neL {H G : Hp} {a p : Addr} {q : Str} {vs : List V} (t : TabG H G a q) (h : H p = some (.lst vs)) : a ≠ p := fun z => by
  obtain ⟨ps, h1, _⟩ := t
  rw [z, h] at h1
  cases h1
theorem TabG.neI {H G : Hp} {a p : Addr} {q : Str} {C dx : Addr} {fs : List (Str × V)} (t : TabG H G a q) (h : H p = some (.ins C dx fs)) : a ≠ p := fun z => by
  obtain ⟨ps, h1, _⟩ := t
  rw [z, h] at h1
  cases h1
theorem nx_own {p : Addr} {kk : Option (List Key)} {vs : List V} : Nx p (ownO kk vs) := by
  cases kk with
  | none => exact nx_lst
  | some ks =>
    refine ⟨(fun ps z => by cases z), fun q z => ?_⟩
    have z' : HO.dK (ks.zip vs) = HO.ext _ := z
    cases z'
theorem TabG.neO {H G : Hp} {a p : Addr} {q : Str} {kk : Option (List Key)} {vs : List V} (t : TabG H G a q) (h : H p = some (ownO kk vs)) : a ≠ p := fun z => by
  obtain ⟨ps, k, _⟩ := t
  rw [z, h] at k
  cases kk <;> cases (Option.some.inj k)
omit [Me] in
def ObjAt (K : PySem.W.Frag) (β : Addr) (P : Hp) (σ : L2.St) (H G : Hp) (i : Nat) (c : Str) (ks : List Str) (l : List Dt) : Prop :=
  ∃ (p C dx : Addr) (vs : List V), σ[i]? = some (some (.ref p)) ∧ (p = Me.me ∧ InsC K c C) ∧ H p = some (.ins C dx (ks.zip vs)) ∧ G p = none ∧ P p = none ∧ ks.length = l.length ∧ IsL K β G l vs
omit [Me] in
structure Rel (K : PySem.W.Frag) (β : Addr) (P : Hp) (σ : L2.St) (H G : Hp) (s : Sta) : Prop where
  len : σ.length = s.sl.length
  gh : Ext G H
  pr : ∀ p o, P p = some o → H p = some o ∧ G p = none
  pb : P β = none
  bag : ∃ vs, H β = some (.lst vs) ∧ G β = none ∧ IsL K β G s.bag vs
  dat : ∀ (i : Nat) (d : Dt), s.sl[i]? = some (some (.dat d)) → ∃ v, σ[i]? = some (some v) ∧ IsD K β G d v
  own : ∀ (i : Nat) (l : List Dt) (kk : Option (List Key)), s.sl[i]? = some (some (.mut kk l)) → ∃ p vs, σ[i]? = some (some (.ref p)) ∧ H p = some (ownO kk vs) ∧ G p = none ∧ P p = none ∧ p ≠ β ∧ IsL K β G l vs
  dj : ∀ (i j : Nat) (l m : List Dt) (kl km : Option (List Key)) (p : Addr), s.sl[i]? = some (some (.mut kl l)) → s.sl[j]? = some (some (.mut km m)) → σ[i]? = some (some (.ref p)) → σ[j]? = some (some (.ref p)) → i = j
  obj : ∀ (i : Nat) (c : Str) (ks : List Str) (l : List Dt), s.sl[i]? = some (some (.obj c ks l)) → ObjAt K β P σ H G i c ks l
  oj : ∀ (i j : Nat) (c : Str) (ks : List Str) (l : List Dt) (c' : Str) (ks' : List Str) (l' : List Dt), s.sl[i]? = some (some (.obj c ks l)) → s.sl[j]? = some (some (.obj c' ks' l')) → i = j
  fns : ∀ (i : Nat) (l : List (Addr × Addr)) (q : Str), s.sl[i]? = some (some (.fns l q)) → FnsAt σ G i l q
  tabs : ∀ p ∈ Tabs.ts, TabG H G p.1 p.2 ∧ G p.1 = none ∧ P p.1 = none
  nt : ∀ (p : Addr) (ps : Array Value), G p ≠ some (.tbl ps)
  pt : ∀ p o, P p = some o → Nx p o
section
variable {K : PySem.W.Frag} {β : Addr} {P : Hp} {σ : L2.St} {H G : Hp} {s : Sta}
theorem Rel.free (R : Rel K β P σ H G s) {p : Addr} (h : H p = none) : G p = none := by
  cases e : G p with
  | none => rfl
  | some o => rw [R.gh p o e] at h; cases h
/-- a new object that never changes -/
theorem Rel.new (R : Rel K β P σ H G s) {p : Addr} {o : HO} (h : H p = none) (ho : ∀ ps, o ≠ .tbl ps := by intro _ z; cases z) : Rel K β P σ (upd H p o) (upd G p o) s where
  len := R.len
  gh := fun a u e => by
    by_cases q : a = p
    · subst q; rw [upd_same] at e ⊢; exact e
    · rw [upd_ne q] at e ⊢; exact R.gh a u e
  pr := fun a u e => by
    have h1 := R.pr a u e
    have q : a ≠ p := ne_of_none h1.1 h
    rw [upd_ne q, upd_ne q]; exact h1
  pb := R.pb
  bag := by
    obtain ⟨vs, h1, h2, h3⟩ := R.bag
    have q : β ≠ p := ne_of_none h1 h
    exact ⟨vs, by rw [upd_ne q]; exact h1, by rw [upd_ne q]; exact h2, IsL.mono (Ext.new (R.free h)) _ _ h3⟩
  dat := fun i d e => by
    obtain ⟨v, h1, h2⟩ := R.dat i d e
    exact ⟨v, h1, IsD.mono (Ext.new (R.free h)) _ _ h2⟩
  own := fun i l kk e => by
    obtain ⟨q, vs, h1, h2, h3, h4, h5, h6⟩ := R.own i l _ e
    have n : q ≠ p := ne_of_none h2 h
    exact ⟨q, vs, h1, by rw [upd_ne n]; exact h2, by rw [upd_ne n]; exact h3, h4, h5, IsL.mono (Ext.new (R.free h)) _ _ h6⟩
  dj := R.dj
  obj := fun i c ks l e => by
    obtain ⟨q, C, dx, vs, h1, h0, h2, h3, h4, h5, h6⟩ := R.obj i c ks l e
    have n : q ≠ p := ne_of_none h2 h
    exact ⟨q, C, dx, vs, h1, h0, by rw [upd_ne n]; exact h2, by rw [upd_ne n]; exact h3, h4, h5, IsL.mono (Ext.new (R.free h)) _ _ h6⟩
  oj := R.oj
  fns := fun i l q e => (R.fns i l q e).mono (Ext.new (R.free h))
  tabs := fun q hq => by
    obtain ⟨t, g, n⟩ := R.tabs q hq
    have z := t.ne h
    exact ⟨t.of (upd_ne z) (Ext.new (R.free h)), by rw [upd_ne z]; exact g, n⟩
  pt := R.pt
  nt := fun a ps e => by
    by_cases c : a = p
    · subst c; rw [upd_same] at e; exact ho ps (Option.some.inj e)
    · rw [upd_ne c] at e; exact R.nt a ps e
omit [Me] in
/-- the caller's part, for a callee -/
noncomputable def shut (β : Addr) (H G : Hp) : Hp := fun p => open Classical in if G p = none ∧ p ≠ β ∧ (∀ t ∈ Tabs.ts, t.1 ≠ p) ∧ (∀ o, H p = some o → Nx p o) then H p else none
theorem shut_some {β p : Addr} {H G : Hp} {o : HO} (h : H p = some o) (g : G p = none) (n : p ≠ β) (m : ∀ t ∈ Tabs.ts, t.1 ≠ p) (x : Nx p o) : shut β H G p = some o := by
  unfold shut; rw [if_pos ⟨g, n, m, fun o' h' => by rw [h] at h'; cases h'; exact x⟩]; exact h
theorem shut_nx {β p : Addr} {H G : Hp} {o : HO} (h : shut β H G p = some o) : Nx p o := by
  unfold shut at h
  split at h
  · rename_i q; exact q.2.2.2 o h
  · cases h
theorem shut_tab {β : Addr} {H G : Hp} {t : Addr × Str} (h : t ∈ Tabs.ts) : shut β H G t.1 = none := by
  unfold shut; rw [if_neg (fun q => q.2.2.1 t h rfl)]
theorem Rel.callee (R : Rel K β P σ H G s) : Rel K β (shut β H G) [] H G ⟨[], s.bag⟩ where
  len := rfl
  gh := R.gh
  pr := fun p o e => by
    unfold shut at e
    split at e
    · rename_i q; exact ⟨e, q.1⟩
    · cases e
  pb := by unfold shut; rw [if_neg (fun q => q.2.1 rfl)]
  bag := R.bag
  dat := fun i d e => by simp at e
  own := fun i d kk e => by simp at e
  dj := fun i j l m kl km p e => by simp at e
  obj := fun i c ks l e => by simp at e
  oj := fun i j c ks l c' ks' l' e => by simp at e
  fns := fun i l q e => by simp at e
  tabs := fun q hq => ⟨(R.tabs q hq).1, (R.tabs q hq).2.1, shut_tab hq⟩
  pt := fun p o h => shut_nx h
  nt := R.nt
theorem Rel.back (R : Rel K β P σ H G s) {H' G' : Hp} {bg : List Dt} (e : Ext G G') (C : Rel K β (shut β H G) [] H' G' ⟨[], bg⟩) : Rel K β P σ H' G' { s with bag := bg } where
  len := R.len
  gh := C.gh
  pr := fun p o q => by
    have h1 := R.pr p o q
    have n : p ≠ β := fun z => by subst z; rw [R.pb] at q; cases q
    exact C.pr p o (shut_some h1.1 h1.2 n (fun t ht z => by rw [← z, (R.tabs t ht).2.2] at q; cases q) (R.pt p o q))
  pb := R.pb
  bag := C.bag
  dat := fun i d q => by
    obtain ⟨v, h1, h2⟩ := R.dat i d q
    exact ⟨v, h1, IsD.mono e _ _ h2⟩
  own := fun i l kk q => by
    obtain ⟨p, vs, h1, h2, h3, h4, h5, h6⟩ := R.own i l _ q
    have h7 := C.pr p _ (shut_some h2 h3 h5 (fun t ht z => (R.tabs t ht).1.neO h2 z) nx_own)
    exact ⟨p, vs, h1, h7.1, h7.2, h4, h5, IsL.mono e _ _ h6⟩
  dj := R.dj
  obj := fun i c ks l q => by
    obtain ⟨p, Ca, dx, vs, h1, h0, h2, h3, h4, h5, h6⟩ := R.obj i c ks l q
    have n : p ≠ β := fun z => by
      obtain ⟨us, b1, _⟩ := R.bag
      rw [← z, h2] at b1
      cases b1
    have h7 := C.pr p _ (shut_some h2 h3 n (fun t ht z => (R.tabs t ht).1.neI h2 z) nx_ins)
    exact ⟨p, _, dx, vs, h1, h0, h7.1, h7.2, h4, h5, IsL.mono e _ _ h6⟩
  oj := R.oj
  fns := fun i l q h => (R.fns i l q h).mono e
  tabs := fun q hq => ⟨(C.tabs q hq).1, (C.tabs q hq).2.1, (R.tabs q hq).2.2⟩
  pt := R.pt
  nt := C.nt
/-- a slot is given data -/
theorem get_set {α : Type} {l : List α} {i j : Nat} {x : α} : (l.set i x)[j]? = if i = j ∧ i < l.length then some x else l[j]? := by
  rw [List.getElem?_set]
  by_cases h : i = j
  · subst h
    by_cases q : i < l.length
    · simp [q]
    · simp [q]
  · simp [h]
theorem Rel.set (R : Rel K β P σ H G s) {i : Nat} {d : Dt} {v : V} (h : IsD K β G d v) : Rel K β P (σ.set i (some v)) H G { s with sl := s.sl.set i (some (.dat d)) } where
  len := by simp [R.len]
  gh := R.gh
  pr := R.pr
  pb := R.pb
  bag := R.bag
  dat := fun j e q => by
    rw [get_set] at q ⊢
    rw [R.len]
    by_cases c : i = j ∧ i < s.sl.length
    · rw [if_pos c] at q ⊢
      cases q
      exact ⟨v, rfl, h⟩
    · rw [if_neg c] at q ⊢
      exact R.dat j e q
  own := fun j e kk q => by
    rw [get_set] at q ⊢
    rw [R.len]
    by_cases c : i = j ∧ i < s.sl.length
    · rw [if_pos c] at q
      cases q
    · rw [if_neg c] at q ⊢
      exact R.own j e _ q
  dj := fun j k l m kl km p q1 q2 r1 r2 => by
    simp only [get_set] at q1 q2 r1 r2
    rw [R.len] at r1 r2
    by_cases c : i = j ∧ i < s.sl.length
    · rw [if_pos c] at q1; cases q1
    by_cases c' : i = k ∧ i < s.sl.length
    · rw [if_pos c'] at q2; cases q2
    rw [if_neg c] at q1 r1
    rw [if_neg c'] at q2 r2
    exact R.dj j k l m _ _ p q1 q2 r1 r2
  obj := fun j c ks l q => by
    rw [get_set] at q
    by_cases c : i = j ∧ i < s.sl.length
    · rw [if_pos c] at q
      cases q
    · rw [if_neg c] at q
      have z := R.obj j _ ks l q
      unfold ObjAt at z ⊢
      rw [get_set, R.len, if_neg c]
      exact z
  oj := fun j k c ks l c' ks' l' q1 q2 => by
    simp only [get_set] at q1 q2
    by_cases c : i = j ∧ i < s.sl.length
    · rw [if_pos c] at q1; cases q1
    by_cases c' : i = k ∧ i < s.sl.length
    · rw [if_pos c'] at q2; cases q2
    rw [if_neg c] at q1
    rw [if_neg c'] at q2
    exact R.oj j k _ _ _ _ _ _ q1 q2
  fns := fun j l q e => by
    rw [get_set] at e
    by_cases c : i = j ∧ i < s.sl.length
    · rw [if_pos c] at e; cases e
    · rw [if_neg c] at e
      exact (R.fns j l q e).of (by rw [get_set, R.len, if_neg c])
  tabs := R.tabs
  pt := R.pt
  nt := R.nt
end
omit [Me] in
abbrev DM (α : Type) := Sta → Option (α × Sta)
omit [Me] in
def TEok (K : PySem.W.Frag) (t : TE) (f : DM Dt) : Prop := ∀ (β : Addr) (P : Hp) (σ : L2.St) (H G : Hp) (s : Sta) (d : Dt) (s' : Sta), Rel K β P σ H G s → f s = some (d, s') →
  ∀ Q : VK, (∀ v H' G', Ext G G' → Rel K β P σ H' G' s' → IsD K β G' d v → Q v H') → t σ H Q
omit [Me] in
def TTok (K : PySem.W.Frag) (t : TT) (f : DM Bool) : Prop := ∀ (β : Addr) (P : Hp) (σ : L2.St) (H G : Hp) (s : Sta) (b : Bool) (s' : Sta), Rel K β P σ H G s → f s = some (b, s') →
  ∀ Q : Bool → Hp → Prop, (∀ H' G', Ext G G' → Rel K β P σ H' G' s' → Q b H') → t σ H Q
omit [Me] in
def TAok (K : PySem.W.Frag) (t : TA) (f : DM (List Dt)) : Prop := ∀ (β : Addr) (P : Hp) (σ : L2.St) (H G : Hp) (s : Sta) (ds : List Dt) (s' : Sta), Rel K β P σ H G s → f s = some (ds, s') →
  ∀ Q : List V → Hp → Prop, (∀ vs H' G', Ext G G' → Rel K β P σ H' G' s' → IsL K β G' ds vs → Q vs H') → t σ H Q
omit [Me] in
def TOok (K : PySem.W.Frag) (t : TO) (f : DM (Option Int)) : Prop := ∀ (β : Addr) (P : Hp) (σ : L2.St) (H G : Hp) (s : Sta) (o : Option Int) (s' : Sta), Rel K β P σ H G s → f s = some (o, s') →
  ∀ Q : Option Int → Hp → Prop, (∀ H' G', Ext G G' → Rel K β P σ H' G' s' → Q o H') → t σ H Q
omit [Me] in
def DE (X : Cx) (e : Expr) (f : DM Dt) : Prop := ∃ t, PE X e t ∧ TEok X.K t f
omit [Me] in
def DT (X : Cx) (e : Expr) (f : DM Bool) : Prop := ∃ t, PT X e t ∧ TTok X.K t f
omit [Me] in
def DW (X : Cx) (e : Expr) (f : DM Bool) : Prop := ∃ t, PW X e t ∧ TTok X.K t f
omit [Me] in
def DA (X : Cx) (es : List Expr) (f : DM (List Dt)) : Prop := ∃ t, PA X es t ∧ TAok X.K t f
omit [Me] in
def DO (X : Cx) (e : Option Expr) (f : DM (Option Int)) : Prop := ∃ t, PO X e t ∧ TOok X.K t f
omit [Me] in
def mC (d : Dt) : DM Dt := fun s => some (d, s)
omit [Me] in
def mVar (i : Nat) : DM Dt := fun s => match s.sl[i]? with
  | some (some (.dat d)) => some (d, s)
  | _ => none
section
variable {X : Cx}
theorem de_int {i j pos} : DE X (.Constant (.int i) j pos) (mC (.int i)) := ⟨_, pe_int, fun β P σ H G s d s' R h Q q => by cases h; exact q _ _ _ (Ext.refl G) R (is_int.mpr rfl)⟩
theorem de_str {i j pos} : DE X (.Constant (.str i) j pos) (mC (.str i)) := ⟨_, pe_str, fun β P σ H G s d s' R h Q q => by cases h; exact q _ _ _ (Ext.refl G) R (is_str.mpr rfl)⟩
theorem de_bl {i j pos} : DE X (.Constant (.bool i) j pos) (mC (.bl i)) := ⟨_, pe_bl, fun β P σ H G s d s' R h Q q => by cases h; exact q _ _ _ (Ext.refl G) R (is_bl.mpr rfl)⟩
theorem de_non {j pos} : DE X (.Constant .none j pos) (mC .non) := ⟨_, pe_non, fun β P σ H G s d s' R h Q q => by cases h; exact q _ _ _ (Ext.refl G) R (is_non.mpr rfl)⟩
theorem de_var {e : Expr} (i : Nat) (h : PE X e (tVar i)) : DE X e (mVar i) := ⟨_, h, fun β P σ H G s d s' R h Q q => by
  unfold mVar at h
  split at h
  · rename_i d' e
    cases h
    obtain ⟨v, h1, h2⟩ := R.dat i d e
    exact ⟨v, h1, q _ _ _ (Ext.refl G) R h2⟩
  · cases h⟩
/-- a name of the module that holds a plain thing -/
theorem de_cst {e : Expr} {v : V} {d : Dt} (h : PE X e (tC v)) (hd : ∀ β G, IsD X.K β G d v) : DE X e (mC d) := ⟨_, h, fun β P σ H G s d s' R h Q q => by
  cases h; exact q _ _ _ (Ext.refl G) R (hd _ _)⟩
end
omit [Me] in
def m2 (g : Dt → Dt → Option Dt) (f1 f2 : DM Dt) : DM Dt := fun s => (f1 s).bind fun p => (f2 p.2).bind fun q => (g p.1 q.1).bind fun d => some (d, q.2)
omit [Me] in
def R2ok (K : PySem.W.Frag) (r : R2) (g : Dt → Dt → Option Dt) : Prop := ∀ (β : Addr) (P : Hp) (σ : L2.St) (H G : Hp) (s : Sta) (x y : V) (dx dy d : Dt), Rel K β P σ H G s → IsD K β G dx x → IsD K β G dy y → g dx dy = some d →
  ∀ Q : VK, (∀ v H' G', Ext G G' → Rel K β P σ H' G' s → IsD K β G' d v → Q v H') → r x y H Q
theorem te_op {K : PySem.W.Frag} {r : R2} {g : Dt → Dt → Option Dt} {ta tb : TE} {fa fb : DM Dt} (hr : R2ok K r g) (ha : TEok K ta fa) (hb : TEok K tb fb) : TEok K (tOp r ta tb) (m2 g fa fb) := by
  intro β P σ H G s d s' R h Q q
  unfold m2 at h
  obtain ⟨⟨x, s1⟩, e1, h⟩ := Option.bind_eq_some_iff.mp h
  obtain ⟨⟨y, s2⟩, e2, h⟩ := Option.bind_eq_some_iff.mp h
  obtain ⟨z, e3, h⟩ := Option.bind_eq_some_iff.mp h
  cases h
  refine ha β P σ H G s x s1 R e1 _ fun v H1 G1 x1 R1 i1 => ?_
  refine hb β P σ H1 G1 s1 y s2 R1 e2 _ fun u H2 G2 x2 R2 i2 => ?_
  exact hr β P σ H2 G2 s2 v u x y d R2 (IsD.mono x2 _ _ i1) i2 e3 Q fun w H3 G3 x3 R3 i3 => q w H3 G3 ((x1.trans x2).trans x3) R3 i3
section
variable {X : Cx}
theorem de_op {op : Operator} {r : R2} {g : Dt → Dt → Option Dt} {a b : Expr} {fa fb : DM Dt} {pos : Pos} (ho : OpR X (binaryOp op) r) (hr : R2ok X.K r g) (ha : DE X a fa) (hb : DE X b fb) : DE X (.BinOp a op b pos) (m2 g fa fb) := by
  obtain ⟨ta, pa, oa⟩ := ha
  obtain ⟨tb, pb, ob⟩ := hb
  exact ⟨_, pe_op ho pa pb, te_op hr oa ob⟩
theorem de_cmp {op : CmpOp} {r : R2} {g : Dt → Dt → Option Dt} {a b : Expr} {fa fb : DM Dt} {pos : Pos} (ho : OpR X (compareOp op) r) (hr : R2ok X.K r g) (ha : DE X a fa) (hb : DE X b fb) (hm : behindInMarks op b = false) : DE X (.Compare a [op] [b] pos) (m2 g fa fb) := by
  obtain ⟨ta, pa, oa⟩ := ha
  obtain ⟨tb, pb, ob⟩ := hb
  exact ⟨_, pe_cmpR ho pa pb hm, te_op hr oa ob⟩
end
omit [Me] in
def mB (f : DM Dt) : DM Bool := fun s => (f s).bind fun p => match p.1 with
  | .bl b => some (b, p.2)
  | _ => none
theorem tt_of {K : PySem.W.Frag} {t : TE} {f : DM Dt} (h : TEok K t f) : TTok K (tTest t) (mB f) := by
  intro β P σ H G s b s' R e Q q
  unfold mB at e
  obtain ⟨⟨x, s1⟩, e1, e⟩ := Option.bind_eq_some_iff.mp e
  refine h β P σ H G s x s1 R e1 _ fun v H1 G1 x1 R1 i1 => ?_
  cases x with
  | bl k => cases e; exact ⟨b, is_bl.mp i1, q H1 G1 x1 R1⟩
  | _ => cases e
theorem tt_B {K : PySem.W.Frag} {t : TE} {f : DM Dt} (h : TEok K t f) : TTok K (tB t) (mB f) := by
  intro β P σ H G s b s' R e Q q
  unfold mB at e
  obtain ⟨⟨x, s1⟩, e1, e⟩ := Option.bind_eq_some_iff.mp e
  refine h β P σ H G s x s1 R e1 _ fun v H1 G1 x1 R1 i1 => ?_
  cases x with
  | bl k => cases e; exact ⟨b, is_bl.mp i1, q H1 G1 x1 R1⟩
  | _ => cases e
section
variable {X : Cx}
theorem dt_cmp {op : CmpOp} {r : R2} {g : Dt → Dt → Option Dt} {a b : Expr} {fa fb : DM Dt} {pos : Pos} (ho : OpR X (compareOp op) r) (hr : R2ok X.K r g) (ha : DE X a fa) (hb : DE X b fb) (hm : behindInMarks op b = false) : DT X (.Compare a [op] [b] pos) (mB (m2 g fa fb)) := by
  obtain ⟨ta, pa, oa⟩ := ha
  obtain ⟨tb, pb, ob⟩ := hb
  exact ⟨_, pt_cmpR ho pa pb hm, tt_of (te_op hr oa ob)⟩
/-- an expression that gives a truth value, as a test -/
theorem dt_val {e : Expr} {f : DM Dt} (h : DE X e f) (he : ∀ whole, isTrue e X.env whole = (do let v ← whole; standAt e.pos; holding [v] (truthy v)) := by intro _; rfl) : DT X e (mB f) := by
  obtain ⟨t, p, o⟩ := h
  exact ⟨_, pt_val p he, tt_B o⟩
omit [Me] in
def mNotB (f : DM Bool) : DM Bool := fun s => (f s).bind fun p => some (!p.1, p.2)
omit [Me] in
def mAndB (f g : DM Bool) : DM Bool := fun s => (f s).bind fun p => if p.1 = true then g p.2 else some (false, p.2)
omit [Me] in
def mOrB (f g : DM Bool) : DM Bool := fun s => (f s).bind fun p => if p.1 = true then some (true, p.2) else g p.2
omit [Me] in
def mIf (c : DM Bool) (f g : DM Dt) : DM Dt := fun s => (c s).bind fun p => if p.1 = true then f p.2 else g p.2
theorem dt_not {a : Expr} {f : DM Bool} {pos : Pos} (h : DT X a f) : DT X (.UnaryOp .Not a pos) (mNotB f) := by
  obtain ⟨t, p, o⟩ := h
  refine ⟨_, pt_not p, fun β P σ H G s b s' R e Q q => ?_⟩
  unfold mNotB at e
  obtain ⟨⟨x, s1⟩, e1, e⟩ := Option.bind_eq_some_iff.mp e
  cases e
  exact o β P σ H G s x s1 R e1 _ fun H1 G1 x1 R1 => q H1 G1 x1 R1
theorem dw_and {a b : Expr} {rest : List Expr} {f g : DM Bool} {pos : Pos} (ha : DT X a f) (hb : DW X (.BoolOp .And (b :: rest) pos) g) : DW X (.BoolOp .And (a :: b :: rest) pos) (mAndB f g) := by
  obtain ⟨t, p, o⟩ := ha
  obtain ⟨u, p2, o2⟩ := hb
  refine ⟨_, pw_and p p2, fun β P σ H G s b s' R e Q q => ?_⟩
  unfold mAndB at e
  obtain ⟨⟨x, s1⟩, e1, e⟩ := Option.bind_eq_some_iff.mp e
  refine o β P σ H G s x s1 R e1 _ fun H1 G1 x1 R1 => ?_
  cases x with
  | true =>
    rw [if_pos rfl] at e ⊢
    exact o2 β P σ H1 G1 s1 b s' R1 e Q fun H2 G2 x2 R2 => q H2 G2 (x1.trans x2) R2
  | false =>
    rw [if_neg Bool.false_ne_true] at e ⊢
    cases e
    exact q H1 G1 x1 R1
theorem dw_or {a b : Expr} {rest : List Expr} {f g : DM Bool} {pos : Pos} (ha : DT X a f) (hb : DW X (.BoolOp .Or (b :: rest) pos) g) : DW X (.BoolOp .Or (a :: b :: rest) pos) (mOrB f g) := by
  obtain ⟨t, p, o⟩ := ha
  obtain ⟨u, p2, o2⟩ := hb
  refine ⟨_, pw_or p p2, fun β P σ H G s b s' R e Q q => ?_⟩
  unfold mOrB at e
  obtain ⟨⟨x, s1⟩, e1, e⟩ := Option.bind_eq_some_iff.mp e
  refine o β P σ H G s x s1 R e1 _ fun H1 G1 x1 R1 => ?_
  cases x with
  | true =>
    rw [if_pos rfl] at e ⊢
    cases e
    exact q H1 G1 x1 R1
  | false =>
    rw [if_neg Bool.false_ne_true] at e ⊢
    exact o2 β P σ H1 G1 s1 b s' R1 e Q fun H2 G2 x2 R2 => q H2 G2 (x1.trans x2) R2
theorem dw_and1 {a : Expr} {f : DM Bool} {pos : Pos} (h : DT X a f) : DW X (.BoolOp .And [a] pos) f := by
  obtain ⟨t, p, o⟩ := h
  exact ⟨_, pw_and1 p, o⟩
theorem dw_or1 {a : Expr} {f : DM Bool} {pos : Pos} (h : DT X a f) : DW X (.BoolOp .Or [a] pos) f := by
  obtain ⟨t, p, o⟩ := h
  exact ⟨_, pw_or1 p, o⟩
theorem DW.dt {e : Expr} {f : DM Bool} (h : DW X e f) : DT X e f := by
  obtain ⟨t, p, o⟩ := h
  exact ⟨_, p.pt, o⟩
theorem de_ifx {c a b : Expr} {f : DM Bool} {g h : DM Dt} {pos : Pos} (hc : DT X c f) (ha : DE X a g) (hb : DE X b h) : DE X (.IfExp c a b pos) (mIf f g h) := by
  obtain ⟨t, p, o⟩ := hc
  obtain ⟨u, p2, o2⟩ := ha
  obtain ⟨w, p3, o3⟩ := hb
  refine ⟨_, pe_ifExp p p2 p3, fun β P σ H G s b s' R e Q q => ?_⟩
  unfold mIf at e
  obtain ⟨⟨x, s1⟩, e1, e⟩ := Option.bind_eq_some_iff.mp e
  refine o β P σ H G s x s1 R e1 _ fun H1 G1 x1 R1 => ?_
  cases x with
  | true =>
    rw [if_pos rfl] at e ⊢
    exact o2 β P σ H1 G1 s1 b s' R1 e Q fun v H2 G2 x2 R2 i => q v H2 G2 (x1.trans x2) R2 i
  | false =>
    rw [if_neg Bool.false_ne_true] at e ⊢
    exact o3 β P σ H1 G1 s1 b s' R1 e Q fun v H2 G2 x2 R2 i => q v H2 G2 (x1.trans x2) R2 i
omit [Me] in
def mAndV (f g : DM Dt) : DM Dt := fun s => (f s).bind fun p => match p.1 with
  | .bl true => g p.2
  | .bl false => some (.bl false, p.2)
  | _ => none
omit [Me] in
def mNotV (f : DM Dt) : DM Dt := fun s => (f s).bind fun p => match p.1 with
  | .bl b => some (.bl !b, p.2)
  | _ => none
theorem de_one {op} {a : Expr} {f : DM Dt} {pos : Pos} (h : DE X a f) : DE X (.BoolOp op [a] pos) f := by
  obtain ⟨t, p, o⟩ := h
  exact ⟨_, pe_one p, o⟩
theorem de_and {a b : Expr} {rest : List Expr} {f g : DM Dt} {pos : Pos} (ha : DE X a f) (hb : DE X (.BoolOp .And (b :: rest) pos) g) : DE X (.BoolOp .And (a :: b :: rest) pos) (mAndV f g) := by
  obtain ⟨t, p, o⟩ := ha
  obtain ⟨u, p2, o2⟩ := hb
  refine ⟨_, pe_and p p2, fun β P σ H G s b s' R e Q q => ?_⟩
  unfold mAndV at e
  obtain ⟨⟨x, s1⟩, e1, e⟩ := Option.bind_eq_some_iff.mp e
  refine o β P σ H G s x s1 R e1 _ fun v H1 G1 x1 R1 i1 => ?_
  split at e
  · rename_i k
    rw [show x = Dt.bl true from k] at i1
    rw [is_bl.mp i1]
    exact ⟨true, rfl, iteT (o2 β P σ H1 G1 s1 b s' R1 e Q fun v H2 G2 x2 R2 i => q v H2 G2 (x1.trans x2) R2 i)⟩
  · rename_i k
    rw [show x = Dt.bl false from k] at i1
    cases e
    rw [is_bl.mp i1]
    exact ⟨false, rfl, iteF (q _ H1 G1 x1 R1 (is_bl.mpr rfl))⟩
  · cases e
theorem de_not {a : Expr} {f : DM Dt} {pos : Pos} (ha : DE X a f) : DE X (.UnaryOp .Not a pos) (mNotV f) := by
  obtain ⟨t, p, o⟩ := ha
  refine ⟨_, pe_not p, fun β P σ H G s b s' R e Q q => ?_⟩
  unfold mNotV at e
  obtain ⟨⟨x, s1⟩, e1, e⟩ := Option.bind_eq_some_iff.mp e
  refine o β P σ H G s x s1 R e1 _ fun v H1 G1 x1 R1 i1 => ?_
  split at e
  · rename_i k c
    rw [show x = Dt.bl k from c] at i1
    cases e
    rw [is_bl.mp i1]
    exact ⟨k, rfl, q _ H1 G1 x1 R1 (is_bl.mpr rfl)⟩
  · cases e
omit [Me] in
def mNil : DM (List Dt) := fun s => some ([], s)
omit [Me] in
def mCons (f : DM Dt) (g : DM (List Dt)) : DM (List Dt) := fun s => (f s).bind fun p => (g p.2).bind fun q => some (p.1 :: q.1, q.2)
omit [Me] in
def mTup (f : DM (List Dt)) : DM Dt := fun s => (f s).bind fun p => if p.1.length ≤ 1000 then some (.tup p.1, p.2) else none
omit [Me] in
def mLst (f : DM (List Dt)) : DM Dt := fun s => (f s).bind fun p => if p.1.length ≤ 1000 then some (.lst p.1, p.2) else none
theorem da_nil : DA X [] mNil := ⟨_, pa_nil, fun β P σ H G s b s' R e Q q => by cases e; exact q _ H G (Ext.refl G) R (isl_nil.mpr rfl)⟩
theorem da_cons {e : Expr} {es : List Expr} {f : DM Dt} {g : DM (List Dt)} (ha : DE X e f) (hb : DA X es g) (hs : starEach (e :: es) X.env = (false, eval e X.env) :: starEach es X.env := by rfl) : DA X (e :: es) (mCons f g) := by
  obtain ⟨t, p, o⟩ := ha
  obtain ⟨u, p2, o2⟩ := hb
  refine ⟨_, pa_cons p p2 hs, fun β P σ H G s b s' R e Q q => ?_⟩
  unfold mCons at e
  obtain ⟨⟨x, s1⟩, e1, e⟩ := Option.bind_eq_some_iff.mp e
  obtain ⟨⟨y, s2⟩, e2, e⟩ := Option.bind_eq_some_iff.mp e
  cases e
  refine o β P σ H G s x s1 R e1 _ fun v H1 G1 x1 R1 i1 => ?_
  refine o2 β P σ H1 G1 s1 y s2 R1 e2 _ fun vs H2 G2 x2 R2 i2 => ?_
  exact q _ H2 G2 (x1.trans x2) R2 (isl_cons.mpr ⟨v, vs, rfl, IsD.mono x2 _ _ i1, i2⟩)
theorem le_line {n : Nat} (h : n ≤ 1000) : n ≤ sizeLine := Nat.le_trans h (by decide)
theorem de_tup {es : List Expr} {f : DM (List Dt)} {x1 pos} (h : DA X es f) : DE X (.Tuple es x1 pos) (mTup f) := by
  obtain ⟨t, p, o⟩ := h
  refine ⟨_, pe_tup p, fun β P σ H G s b s' R e Q q => ?_⟩
  unfold mTup at e
  obtain ⟨⟨x, s1⟩, e1, e⟩ := Option.bind_eq_some_iff.mp e
  refine o β P σ H G s x s1 R e1 _ fun vs H1 G1 x1 R1 i1 => ?_
  by_cases hl : x.length ≤ 1000
  · simp only [if_pos hl] at e
    cases e
    refine ⟨le_line (by rw [i1.len]; exact hl), fun p hp => ?_⟩
    exact q _ _ _ (x1.trans (Ext.new (R1.free hp))) (R1.new hp) (is_tup.mpr ⟨p, vs, rfl, .inl (.inl upd_same), IsL.mono (Ext.new (R1.free hp)) _ _ i1⟩)
  · simp only [if_neg hl] at e
    cases e
theorem de_lst {es : List Expr} {f : DM (List Dt)} {pos} (h : DA X es f) : DE X (.List es pos) (mLst f) := by
  obtain ⟨t, p, o⟩ := h
  refine ⟨_, pe_lst p, fun β P σ H G s b s' R e Q q => ?_⟩
  unfold mLst at e
  obtain ⟨⟨x, s1⟩, e1, e⟩ := Option.bind_eq_some_iff.mp e
  refine o β P σ H G s x s1 R e1 _ fun vs H1 G1 x1 R1 i1 => ?_
  by_cases hl : x.length ≤ 1000
  · simp only [if_pos hl] at e
    cases e
    refine ⟨le_line (by rw [i1.len]; exact hl), fun p hp => ?_⟩
    exact q _ _ _ (x1.trans (Ext.new (R1.free hp))) (R1.new hp) (is_lst.mpr ⟨p, vs, rfl, upd_same, IsL.mono (Ext.new (R1.free hp)) _ _ i1⟩)
  · simp only [if_neg hl] at e
    cases e
end
end DL
set_option maxHeartbeats 4000000
namespace DL
open PySem PySem.Spec PyProof.Rows L2
variable [Tabs] [Me]
section
variable {K : PySem.W.Frag}
omit [Me] in
def i2 (C : Int → Int → Bool) (g : Int → Int → Dt) : Dt → Dt → Option Dt
  | .int i, .int j => if C i j = true then some (g i j) else none
  | _, _ => none
theorem i2_some {C : Int → Int → Bool} {g : Int → Int → Dt} {x y d : Dt} (h : i2 C g x y = some d) : ∃ i j, x = .int i ∧ y = .int j ∧ C i j = true ∧ d = g i j := by
  unfold i2 at h
  split at h
  · rename_i i j
    split at h
    · rename_i c; cases h; exact ⟨i, j, rfl, rfl, c, rfl⟩
    · cases h
  · cases h
omit [Me] in
def cTrue (_ _ : Int) : Bool := true
theorem r2_int0 {g : Int → Int → Int} : R2ok K (rI0 fun i j => .int (g i j)) (i2 cTrue fun i j => .int (g i j)) := by
  intro β P σ H G s x y dx dy d R ix iy h Q q
  obtain ⟨i, j, rfl, rfl, _, rfl⟩ := i2_some h
  exact ⟨i, j, is_int.mp ix, is_int.mp iy, q _ H G (Ext.refl G) R (is_int.mpr rfl)⟩
theorem r2_intB {g : Int → Int → Bool} : R2ok K (rI0 fun i j => .bl (g i j)) (i2 cTrue fun i j => .bl (g i j)) := by
  intro β P σ H G s x y dx dy d R ix iy h Q q
  obtain ⟨i, j, rfl, rfl, _, rfl⟩ := i2_some h
  exact ⟨i, j, is_int.mp ix, is_int.mp iy, q _ H G (Ext.refl G) R (is_bl.mpr rfl)⟩
theorem r2_int {C : Int → Int → Prop} {B : Int → Int → Bool} {g : Int → Int → Int} (hB : ∀ i j, B i j = true → C i j) : R2ok K (rI C fun i j => .int (g i j)) (i2 B fun i j => .int (g i j)) := by
  intro β P σ H G s x y dx dy d R ix iy h Q q
  obtain ⟨i, j, rfl, rfl, c, rfl⟩ := i2_some h
  exact ⟨i, j, is_int.mp ix, is_int.mp iy, hB i j c, q _ H G (Ext.refl G) R (is_int.mpr rfl)⟩
omit [Me] in
def bMul (i j : Int) : Bool := (decide (-18446744073709551616 < j) && decide (j < 18446744073709551616)) || (decide (-18446744073709551616 < i) && decide (i < 18446744073709551616))
theorem bMul_ok (i j : Int) (h : bMul i j = true) : CMul i j := by
  unfold bMul at h
  rw [Bool.or_eq_true] at h
  rcases h with h | h
  · rw [Bool.and_eq_true] at h; exact .inr ⟨of_decide_eq_true h.1, of_decide_eq_true h.2⟩
  · rw [Bool.and_eq_true] at h; exact .inl ⟨of_decide_eq_true h.1, of_decide_eq_true h.2⟩
omit [Me] in
def bDiv (_ j : Int) : Bool := decide (0 < j) && decide (j < 1073741824)
theorem bDiv_ok (i j : Int) (h : bDiv i j = true) : CDivN i j := by
  unfold bDiv at h
  rw [Bool.and_eq_true] at h
  have h1 := of_decide_eq_true h.1
  have h2 := of_decide_eq_true h.2
  exact ⟨by omega, by omega⟩
omit [Me] in
def bMod (_ j : Int) : Bool := decide (0 < j)
theorem bMod_ok (i j : Int) (h : bMod i j = true) : 0 < j := of_decide_eq_true h
omit [Me] in
def bPow (i j : Int) : Bool := decide (0 ≤ j) && decide (j ≤ 1000000) && decide (i.natAbs < 2 ^ 64)
theorem bPow_ok (i j : Int) (h : bPow i j = true) : CPow i j := by
  unfold bPow at h
  rw [Bool.and_eq_true, Bool.and_eq_true] at h
  exact ⟨of_decide_eq_true h.1.1, of_decide_eq_true h.1.2, of_decide_eq_true h.2⟩
omit [Me] in
def gSub0 : Dt → Dt → Option Dt := i2 cTrue fun i j => .int (i - j)
omit [Me] in
def gMul : Dt → Dt → Option Dt := i2 bMul fun i j => .int (i * j)
omit [Me] in
def gDiv : Dt → Dt → Option Dt := i2 bDiv fun i j => .int (i.fdiv j)
omit [Me] in
def gMod : Dt → Dt → Option Dt := i2 bMod fun i j => .int (i % j)
omit [Me] in
def gPow : Dt → Dt → Option Dt := i2 bPow fun i j => .int (i ^ j.toNat)
theorem R2ok.or {r r' : R2} {g g' : Dt → Dt → Option Dt} (h : R2ok K r g) (h' : R2ok K r' g') : R2ok K (fun x y H Q => r x y H Q ∨ r' x y H Q) (fun x y => match g x y with | some d => some d | none => g' x y) := by
  intro β P σ H G s x y dx dy d R ix iy e Q q
  dsimp only at e
  split at e
  · rename_i d' k
    cases e
    exact .inl (h β P σ H G s x y dx dy d R ix iy k Q q)
  · exact .inr (h' β P σ H G s x y dx dy d R ix iy e Q q)
theorem R2ok.imp {r : R2} {g g' : Dt → Dt → Option Dt} (h : R2ok K r g) (hg : ∀ x y d, g' x y = some d → g x y = some d) : R2ok K r g' :=
  fun β P σ H G s x y dx dy d R ix iy e => h β P σ H G s x y dx dy d R ix iy (hg _ _ _ e)
omit [Me] in
def gAddS : Dt → Dt → Option Dt
  | .str a, .str b => if a.length + b.length ≤ sizeLine then some (.str (a ++ b)) else none
  | _, _ => none
theorem r2_addS : R2ok K (fun x y H Q => ∃ i j, x = .str i ∧ y = .str j ∧ i.length + j.length ≤ sizeLine ∧ Q (.str (i ++ j)) H) gAddS := by
  intro β P σ H G s x y dx dy d R ix iy h Q q
  unfold gAddS at h
  split at h
  · rename_i a b
    split at h
    · rename_i c; cases h; exact ⟨a, b, is_str.mp ix, is_str.mp iy, c, q _ H G (Ext.refl G) R (is_str.mpr rfl)⟩
    · cases h
  · cases h
omit [Me] in
def gAddL : Dt → Dt → Option Dt
  | .lst a, .lst b => if a.length + b.length ≤ sizeLine then some (.lst (a ++ b)) else none
  | _, _ => none
theorem r2_addL : R2ok K rCat gAddL := by
  intro β P σ H G s x y dx dy d R ix iy h Q q
  unfold gAddL at h
  split at h
  · rename_i a b
    split at h
    · rename_i c
      cases h
      obtain ⟨p, vs, rfl, h1, h2⟩ := is_lst.mp ix
      obtain ⟨p', us, rfl, h3, h4⟩ := is_lst.mp iy
      refine ⟨p, p', vs, us, rfl, rfl, R.gh _ _ h1, R.gh _ _ h3, by rw [h2.len, h4.len]; exact c, fun l hl => ?_⟩
      exact q _ _ _ (Ext.new (R.free hl)) (R.new hl) (is_lst.mpr ⟨l, _, rfl, upd_same, IsL.mono (Ext.new (R.free hl)) _ _ (h2.append h4)⟩)
    · cases h
  · cases h
omit [Me] in
def gAddT : Dt → Dt → Option Dt
  | .tup a, .tup b => if a.length + b.length ≤ sizeLine then some (.tup (a ++ b)) else none
  | _, _ => none
theorem r2_addT : R2ok K (rCatA K) gAddT := by
  intro β P σ H G s x y dx dy d R ix iy h Q q
  unfold gAddT at h
  split at h
  · rename_i a b
    split at h
    · rename_i c
      cases h
      obtain ⟨p, vs, rfl, h1, h2⟩ := is_tup.mp ix
      obtain ⟨p', us, rfl, h3, h4⟩ := is_tup.mp iy
      refine ⟨p, p', vs, us, rfl, rfl, ext_t R.gh h1, ext_t R.gh h3, by rw [h2.len, h4.len]; exact c, fun e => ?_, fun e e' => ?_, fun e e' l hl => ?_⟩
      · refine q _ H G (Ext.refl G) R ?_
        have z : a = [] := by
          have := h2.len; rw [e] at this; exact List.eq_nil_of_length_eq_zero this.symm
        rw [z]; exact iy
      · refine q _ H G (Ext.refl G) R ?_
        have z : b = [] := by
          have := h4.len; rw [e'] at this; exact List.eq_nil_of_length_eq_zero this.symm
        rw [z, List.append_nil]; exact ix
      · exact q _ _ _ (Ext.new (R.free hl)) (R.new hl) (is_tup.mpr ⟨l, _, rfl, .inl (.inl upd_same), IsL.mono (Ext.new (R.free hl)) _ _ (h2.append h4)⟩)
    · cases h
  · cases h
omit [Me] in
/-- + of ints, texts, lists, tuples -/
def gAdd : Dt → Dt → Option Dt
  | .int i, .int j => some (.int (i + j))
  | .str a, .str b => if a.length + b.length ≤ sizeLine then some (.str (a ++ b)) else none
  | .lst a, .lst b => if a.length + b.length ≤ sizeLine then some (.lst (a ++ b)) else none
  | .tup a, .tup b => if a.length + b.length ≤ sizeLine then some (.tup (a ++ b)) else none
  | _, _ => none
section
variable {X : Cx}
theorem de_add {a b : Expr} {fa fb : DM Dt} {pos : Pos} (ha : DE X a fa) (hb : DE X b fb) : DE X (.BinOp a .Add b pos) (m2 gAdd fa fb) := by
  refine de_op (op_add.or (op_add_str.or (op_cat.or op_catA))) ((r2_int0.or (r2_addS.or (r2_addL.or r2_addT))).imp fun x y d h => ?_) ha hb
  unfold gAdd at h
  split at h
  · exact h
  · exact (show (match gAddS _ _ with | some d => some d | none => _) = _ by simp only [gAddS]; split at h <;> simp_all)
  · simp only [i2, gAddS, gAddL]; split at h <;> simp_all
  · simp only [i2, gAddS, gAddL, gAddT]; split at h <;> simp_all
  · cases h
theorem de_sub {a b : Expr} {fa fb : DM Dt} {pos : Pos} (ha : DE X a fa) (hb : DE X b fb) : DE X (.BinOp a .Sub b pos) (m2 gSub0 fa fb) := de_op op_sub r2_int0 ha hb
theorem de_mul {a b : Expr} {fa fb : DM Dt} {pos : Pos} (ha : DE X a fa) (hb : DE X b fb) : DE X (.BinOp a .Mult b pos) (m2 gMul fa fb) := de_op op_mul (r2_int bMul_ok) ha hb
theorem de_fdiv {a b : Expr} {fa fb : DM Dt} {pos : Pos} (ha : DE X a fa) (hb : DE X b fb) : DE X (.BinOp a .FloorDiv b pos) (m2 gDiv fa fb) := de_op op_fdivN (r2_int bDiv_ok) ha hb
theorem de_mod {a b : Expr} {fa fb : DM Dt} {pos : Pos} (ha : DE X a fa) (hb : DE X b fb) : DE X (.BinOp a .Mod b pos) (m2 gMod fa fb) := de_op op_mod (r2_int bMod_ok) ha hb
theorem de_pow {a b : Expr} {fa fb : DM Dt} {pos : Pos} (ha : DE X a fa) (hb : DE X b fb) : DE X (.BinOp a .Pow b pos) (m2 gPow fa fb) := de_op op_pow (r2_int bPow_ok) ha hb
end
omit [Me] in
def strLt (a b : Str) : Bool := decide (a.cps.toList < b.cps.toList)
omit [Me] in
def s2 (g : Str → Str → Bool) : Dt → Dt → Option Dt
  | .str a, .str b => some (.bl (g a b))
  | _, _ => none
theorem r2_s2 {g : Str → Str → Bool} : R2ok K (fun x y H Q => ∃ i j, x = .str i ∧ y = .str j ∧ Q (.bl (g i j)) H) (s2 g) := by
  intro β P σ H G s x y dx dy d R ix iy h Q q
  unfold s2 at h
  split at h
  · rename_i a b; cases h; exact ⟨a, b, is_str.mp ix, is_str.mp iy, q _ H G (Ext.refl G) R (is_bl.mpr rfl)⟩
  · cases h
omit [Me] in
def oLt : Dt → Dt → Option Dt
  | .int i, .int j => some (.bl (decide (i < j)))
  | .str a, .str b => some (.bl (strLt a b))
  | _, _ => none
omit [Me] in
def oLe : Dt → Dt → Option Dt
  | .int i, .int j => some (.bl (decide (i ≤ j)))
  | .str a, .str b => some (.bl !(strLt b a))
  | _, _ => none
omit [Me] in
def oGt : Dt → Dt → Option Dt
  | .int i, .int j => some (.bl (decide (j < i)))
  | .str a, .str b => some (.bl (strLt b a))
  | _, _ => none
omit [Me] in
def oGe : Dt → Dt → Option Dt
  | .int i, .int j => some (.bl (decide (j ≤ i)))
  | .str a, .str b => some (.bl !(strLt a b))
  | _, _ => none
theorem r2_lt : R2ok K (fun x y H Q => rI0 (fun i j => .bl (decide (i < j))) x y H Q ∨ ∃ i j, x = .str i ∧ y = .str j ∧ Q (.bl (decide (i.cps.toList < j.cps.toList))) H) oLt :=
  (r2_intB.or (r2_s2 (g := strLt))).imp fun x y d h => by unfold oLt at h; split at h <;> first | exact h | cases h
theorem r2_le : R2ok K (fun x y H Q => rI0 (fun i j => .bl (decide (i ≤ j))) x y H Q ∨ ∃ i j, x = .str i ∧ y = .str j ∧ Q (.bl (!decide (j.cps.toList < i.cps.toList))) H) oLe :=
  (r2_intB.or (r2_s2 (g := fun a b => !strLt b a))).imp fun x y d h => by unfold oLe at h; split at h <;> first | exact h | cases h
theorem r2_gt : R2ok K (fun x y H Q => rI0 (fun i j => .bl (decide (j < i))) x y H Q ∨ ∃ i j, x = .str i ∧ y = .str j ∧ Q (.bl (decide (j.cps.toList < i.cps.toList))) H) oGt :=
  (r2_intB.or (r2_s2 (g := fun a b => strLt b a))).imp fun x y d h => by unfold oGt at h; split at h <;> first | exact h | cases h
theorem r2_ge : R2ok K (fun x y H Q => rI0 (fun i j => .bl (decide (j ≤ i))) x y H Q ∨ ∃ i j, x = .str i ∧ y = .str j ∧ Q (.bl (!decide (i.cps.toList < j.cps.toList))) H) oGe :=
  (r2_intB.or (r2_s2 (g := fun a b => !strLt a b))).imp fun x y d h => by unfold oGe at h; split at h <;> first | exact h | cases h
omit [Me] in
mutual
def toPy : Dt → PyData
  | .non => .none
  | .bl b => .bool b
  | .int i => .int i
  | .str x => .str x
  | .tup l => .tuple (toPys l)
  | .lst l => .list (toPys l)
  | .bag => .none
  | .dic _ _ => .none
  | .ins _ _ _ => .none
  | .err _ _ _ => .none
  | .old _ => .none
def toPys : List Dt → List PyData
  | [] => []
  | d :: l => toPy d :: toPys l
end
omit [Me] in
mutual
def plain : Dt → Bool
  | .bag => false
  | .dic _ _ => false
  | .ins _ _ _ => false
  | .err _ _ _ => false
  | .old _ => false
  | .tup l => plains l
  | .lst l => plains l
  | _ => true
def plains : List Dt → Bool
  | [] => true
  | d :: l => plain d && plains l
end
mutual
theorem dp_of {β : Addr} {G H : Hp} (e : Ext G H) : ∀ (d : Dt) (v : V), plain d = true → IsD K β G d v → Dp K H v (toPy d)
  | .non, v, _, h => by rw [is_non.mp h]; exact .non
  | .bl b, v, _, h => by rw [is_bl.mp h]; exact .bl b
  | .int b, v, _, h => by rw [is_int.mp h]; exact .int b
  | .str b, v, _, h => by rw [is_str.mp h]; exact .str b
  | .bag, _, p, _ => by cases p
  | .dic _ _, _, p, _ => by cases p
  | .ins _ _ _, _, p, _ => by cases p
  | .err _ _ _, _, p, _ => by cases p
  | .old _, _, p, _ => by cases p
  | .tup l, v, p, h => by
    obtain ⟨a, vs, rfl, h1, h2⟩ := is_tup.mp h
    unfold toPy
    exact .tup (ext_t e h1) (dps_of e l vs (by unfold plain at p; exact p) h2)
  | .lst l, v, p, h => by
    obtain ⟨a, vs, rfl, h1, h2⟩ := is_lst.mp h
    unfold toPy
    exact .lst (.inl (.inl (e _ _ h1))) (dps_of e l vs (by unfold plain at p; exact p) h2)
theorem dps_of {β : Addr} {G H : Hp} (e : Ext G H) : ∀ (l : List Dt) (vs : List V), plains l = true → IsL K β G l vs → DpAll K H vs (toPys l)
  | [], vs, _, h => by rw [isl_nil.mp h]; unfold toPys; exact .nil
  | d :: l, vs, p, h => by
    obtain ⟨v, r, rfl, h1, h2⟩ := isl_cons.mp h
    unfold plains at p
    rw [Bool.and_eq_true] at p
    unfold toPys
    exact .cons (dp_of e d v p.1 h1) (dps_of e l r p.2 h2)
end
omit [Me] in
def eqOk (d : Dt) : Bool := plain d && SeqAt.shaped (toPy d)
omit [Me] in
def eqD (d e : Dt) : Bool := PyData.eqv (toPy d) (toPy e)
omit [Me] in
def gEq (d e : Dt) : Option Dt := if (eqOk d && eqOk e) = true then some (.bl (eqD d e)) else none
omit [Me] in
def gNe (d e : Dt) : Option Dt := if (eqOk d && eqOk e) = true then some (.bl !(eqD d e)) else none
theorem r2_eq : R2ok K (rEqD K) gEq := by
  intro β P σ H G s x y dx dy d R ix iy h Q q
  unfold gEq at h
  split at h
  · rename_i c
    cases h
    unfold eqOk at c
    simp only [Bool.and_eq_true] at c
    exact ⟨_, _, dp_of R.gh _ _ c.1.1 ix, dp_of R.gh _ _ c.2.1 iy, c.1.2, c.2.2, q _ H G (Ext.refl G) R (is_bl.mpr rfl)⟩
  · cases h
theorem r2_ne : R2ok K (rNeD K) gNe := by
  intro β P σ H G s x y dx dy d R ix iy h Q q
  unfold gNe at h
  split at h
  · rename_i c
    cases h
    unfold eqOk at c
    simp only [Bool.and_eq_true] at c
    exact ⟨_, _, dp_of R.gh _ _ c.1.1 ix, dp_of R.gh _ _ c.2.1 iy, c.1.2, c.2.2, q _ H G (Ext.refl G) R (is_bl.mpr rfl)⟩
  · cases h
omit [Me] in
def isNon : Dt → Bool
  | .non => true
  | _ => false
theorem non_iff {β : Addr} {G : Hp} {d : Dt} {v : V} (h : IsD K β G d v) : decide (v = .non) = isNon d := by
  cases d with
  | non => rw [is_non.mp h]; rfl
  | bl b => rw [is_bl.mp h]; rfl
  | int b => rw [is_int.mp h]; rfl
  | str b => rw [is_str.mp h]; rfl
  | bag => rw [is_bag.mp h]; rfl
  | tup l => obtain ⟨a, vs, rfl, _⟩ := is_tup.mp h; rfl
  | lst l => obtain ⟨a, vs, rfl, _⟩ := is_lst.mp h; rfl
  | dic ks l => obtain ⟨a, vs, rfl, _⟩ := is_dic.mp h; rfl
  | ins c ks l => obtain ⟨a, C, dx, vs, rfl, _⟩ := is_ins.mp h; rfl
  | err c ks l => obtain ⟨a, C, dx, vs, rfl, _⟩ := is_err.mp h; rfl
  | old l => obtain ⟨a, o, vs, rfl, _⟩ := is_old.mp h; rfl
omit [Me] in
def gIsN (x y : Dt) : Option Dt := if isNon y = true then some (.bl (isNon x)) else none
theorem r2_isN : R2ok K (fun x y H Q => y = .non ∧ Q (.bl (decide (x = .non))) H) gIsN := by
  intro β P σ H G s x y dx dy d R ix iy h Q q
  unfold gIsN at h
  split at h
  · rename_i c
    cases h
    have e := non_iff iy
    rw [c] at e
    exact ⟨of_decide_eq_true e, by rw [non_iff ix]; exact q _ H G (Ext.refl G) R (is_bl.mpr rfl)⟩
  · cases h
omit [Me] in
def flatD : Dt → Bool
  | .non => true
  | .bl _ => true
  | .int _ => true
  | .str _ => true
  | _ => false
omit [Me] in
def sameD : Dt → Dt → Bool
  | .non, .non => true
  | .bl a, .bl b => a == b
  | .bl a, .int b => (if a then 1 else 0) == b
  | .int a, .bl b => a == (if b then 1 else 0)
  | .int a, .int b => a == b
  | .str a, .str b => a == b
  | _, _ => false
theorem flat_ok {β : Addr} {G : Hp} {d : Dt} {v : V} (h : IsD K β G d v) (f : flatD d = true) : flatV v = true := by
  cases d with
  | non => rw [is_non.mp h]; rfl
  | bl b => rw [is_bl.mp h]; rfl
  | int b => rw [is_int.mp h]; rfl
  | str b => rw [is_str.mp h]; rfl
  | _ => cases f
theorem same_ok {β : Addr} {G : Hp} {d e : Dt} {v u : V} (h : IsD K β G d v) (f : flatD d = true) (h' : IsD K β G e u) (f' : flatD e = true) : eqV v u = sameD d e := by
  cases d with
  | non => rw [is_non.mp h]; cases e with
    | non => rw [is_non.mp h']; rfl
    | bl b => rw [is_bl.mp h']; rfl
    | int b => rw [is_int.mp h']; rfl
    | str b => rw [is_str.mp h']; rfl
    | _ => cases f'
  | bl b => rw [is_bl.mp h]; cases e with
    | non => rw [is_non.mp h']; rfl
    | bl b => rw [is_bl.mp h']; rfl
    | int b => rw [is_int.mp h']; rfl
    | str b => rw [is_str.mp h']; rfl
    | _ => cases f'
  | int b => rw [is_int.mp h]; cases e with
    | non => rw [is_non.mp h']; rfl
    | bl b => rw [is_bl.mp h']; rfl
    | int b => rw [is_int.mp h']; rfl
    | str b => rw [is_str.mp h']; rfl
    | _ => cases f'
  | str b => rw [is_str.mp h]; cases e with
    | non => rw [is_non.mp h']; rfl
    | bl b => rw [is_bl.mp h']; rfl
    | int b => rw [is_int.mp h']; rfl
    | str b => rw [is_str.mp h']; rfl
    | _ => cases f'
  | _ => cases f
theorem flats_ok {β : Addr} {G : Hp} : ∀ {l : List Dt} {vs : List V}, IsL K β G l vs → l.all flatD = true → vs.all flatV = true
  | [], vs, h, _ => by rw [isl_nil.mp h]; rfl
  | d :: l, vs, h, f => by
    obtain ⟨v, r, rfl, h1, h2⟩ := isl_cons.mp h
    simp only [List.all_cons, Bool.and_eq_true] at f ⊢
    exact ⟨flat_ok h1 f.1, flats_ok h2 f.2⟩
theorem ins_ok {β : Addr} {G : Hp} {e : Dt} {u : V} (hu : IsD K β G e u) (f' : flatD e = true) : ∀ {l : List Dt} {vs : List V}, IsL K β G l vs → l.all flatD = true → inV u vs = l.any fun d => sameD d e
  | [], vs, h, _ => by rw [isl_nil.mp h]; rfl
  | d :: l, vs, h, f => by
    obtain ⟨v, r, rfl, h1, h2⟩ := isl_cons.mp h
    simp only [List.all_cons, Bool.and_eq_true] at f
    show (eqV v u || inV u r) = _
    rw [same_ok h1 f.1 hu f', ins_ok hu f' h2 f.2]
    rfl
omit [Me] in
def inS (a b : Str) : Bool := !(Builtin.Str.occurrences b a 0 b.length 1).isEmpty
omit [Me] in
def gIn : Dt → Dt → Option Dt
  | .str a, .str b => some (.bl (inS a b))
  | x, .tup l => if (flatD x && l.all flatD) = true then some (.bl (l.any fun d => sameD d x)) else none
  | x, .lst l => if (flatD x && l.all flatD) = true then some (.bl (l.any fun d => sameD d x)) else none
  | _, _ => none
omit [Me] in
def gNin : Dt → Dt → Option Dt
  | .str a, .str b => some (.bl !(inS a b))
  | x, .tup l => if (flatD x && l.all flatD) = true then some (.bl !(l.any fun d => sameD d x)) else none
  | x, .lst l => if (flatD x && l.all flatD) = true then some (.bl !(l.any fun d => sameD d x)) else none
  | _, _ => none
theorem r2_in : R2ok K (fun x y H Q => (∃ i j, x = .str i ∧ y = .str j ∧ Q (.bl (!(Builtin.Str.occurrences j i 0 j.length 1).isEmpty)) H) ∨ rIn K false x y H Q) gIn := by
  intro β P σ H G s x y dx dy d R ix iy h Q q
  unfold gIn at h
  split at h
  · rename_i a b
    cases h
    exact .inl ⟨a, b, is_str.mp ix, is_str.mp iy, q _ H G (Ext.refl G) R (is_bl.mpr rfl)⟩
  · rename_i l
    split at h
    · rename_i c
      cases h
      rw [Bool.and_eq_true] at c
      obtain ⟨a, vs, rfl, h1, h2⟩ := is_tup.mp iy
      exact .inr ⟨a, vs, rfl, .inr (ext_t R.gh h1), flat_ok ix c.1, flats_ok h2 c.2, q _ H G (Ext.refl G) R (is_bl.mpr (by rw [ins_ok ix c.1 h2 c.2]; rfl))⟩
    · cases h
  · rename_i l
    split at h
    · rename_i c
      cases h
      rw [Bool.and_eq_true] at c
      obtain ⟨a, vs, rfl, h1, h2⟩ := is_lst.mp iy
      exact .inr ⟨a, vs, rfl, .inl (.inl (.inl (R.gh _ _ h1))), flat_ok ix c.1, flats_ok h2 c.2, q _ H G (Ext.refl G) R (is_bl.mpr (by rw [ins_ok ix c.1 h2 c.2]; rfl))⟩
    · cases h
  · cases h
omit [Me] in
def gIx : Dt → Dt → Option Dt
  | .tup l, .int i => atI l i
  | .lst l, .int i => atI l i
  | .str z, .int i => if z.length ≤ sizeLine then (atI z.cps.toList i).bind fun c => some (.str ⟨#[c]⟩) else none
  | _, _ => none
theorem ati_ok {β : Addr} {G : Hp} {l : List Dt} {vs : List V} {i : Int} {d : Dt} (h : IsL K β G l vs) (e : atI l i = some d) : ∃ v, atI vs i = some v ∧ IsD K β G d v := by
  unfold atI at e ⊢
  obtain ⟨j, e1, e2⟩ := Option.bind_eq_some_iff.mp e
  obtain ⟨v, e3, e4⟩ := h.get e2
  exact ⟨v, by rw [h.len, e1]; exact e3, e4⟩
theorem r2_ix : R2ok K (rIx K) gIx := by
  intro β P σ H G s x y dx dy d R ix iy h Q q
  unfold gIx at h
  split at h
  · rename_i l i
    obtain ⟨a, vs, rfl, h1, h2⟩ := is_tup.mp ix
    obtain ⟨v, e1, e2⟩ := ati_ok h2 h
    exact .inr (.inl ⟨a, vs, i, v, rfl, is_int.mp iy, ext_t R.gh h1, e1, q _ H G (Ext.refl G) R e2⟩)
  · rename_i l i
    obtain ⟨a, vs, rfl, h1, h2⟩ := is_lst.mp ix
    obtain ⟨v, e1, e2⟩ := ati_ok h2 h
    exact .inl ⟨a, vs, i, v, rfl, is_int.mp iy, .inl (.inl (R.gh _ _ h1)), e1, q _ H G (Ext.refl G) R e2⟩
  · rename_i z i
    split at h
    · rename_i c
      obtain ⟨k, e1, e2⟩ := Option.bind_eq_some_iff.mp h
      cases e2
      exact .inr (.inr ⟨z, i, k, is_str.mp ix, is_int.mp iy, c, e1, q _ H G (Ext.refl G) R (is_str.mpr rfl)⟩)
    · cases h
  · cases h
end
section
variable {X : Cx}
theorem de_ix {a b : Expr} {fa fb : DM Dt} {pos : Pos} (ha : DE X a fa) (hb : DE X b fb) (hs : PlainIx b := by exact fun _ _ => rfl) : DE X (.Subscript a b pos) (m2 gIx fa fb) := by
  obtain ⟨ta, pa, oa⟩ := ha
  obtain ⟨tb, pb, ob⟩ := hb
  exact ⟨_, pe_ix ix_seq pa pb hs, te_op r2_ix oa ob⟩
end
end DL
set_option maxHeartbeats 4000000
namespace DL
open PySem PySem.Spec PyProof.Rows L2
variable [Tabs] [Me]
omit [Me] in
def mNoP : DM (Option Int) := fun s => some (none, s)
omit [Me] in
def mPart (f : DM Dt) : DM (Option Int) := fun s => (f s).bind fun p => match p.1 with
  | .int i => some (some i, p.2)
  | _ => none
omit [Me] in
def cutD {α : Type} (l : List α) (lo hi : Option Int) : List α := (l.drop (HT.sIx l.length 0 lo)).take (HT.sIx l.length l.length hi - HT.sIx l.length 0 lo)
omit [Me] in
def gSl : Dt → Option Int → Option Int → Option Dt
  | .str z, lo, hi => if z.length ≤ sizeLine then some (.str (cutS z lo hi)) else none
  | .lst l, lo, hi => some (.lst (cutD l lo hi))
  | .tup l, lo, hi => some (.tup (cutD l lo hi))
  | _, _, _ => none
omit [Me] in
def mSl (f : DM Dt) (g h : DM (Option Int)) : DM Dt := fun s => (f s).bind fun p => (g p.2).bind fun q => (h q.2).bind fun r => (gSl p.1 q.1 r.1).bind fun d => some (d, r.2)
theorem cutD_ok {K : PySem.W.Frag} {β : Addr} {G : Hp} {l : List Dt} {vs : List V} (h : IsL K β G l vs) (lo hi : Option Int) : IsL K β G (cutD l lo hi) (cutV vs lo hi) := by
  unfold cutD cutV
  rw [h.len]
  exact (h.drop _).take _
section
variable {X : Cx}
theorem do_none : DO X none mNoP := ⟨_, po_none, fun β P σ H G s o s' R e Q q => by cases e; exact q H G (Ext.refl G) R⟩
theorem do_some {e : Expr} {f : DM Dt} (h : DE X e f) : DO X (some e) (mPart f) := by
  obtain ⟨t, p, o⟩ := h
  refine ⟨_, po_some p, fun β P σ H G s b s' R e Q q => ?_⟩
  unfold mPart at e
  obtain ⟨⟨x, s1⟩, e1, e⟩ := Option.bind_eq_some_iff.mp e
  refine o β P σ H G s x s1 R e1 _ fun v H1 G1 x1 R1 i1 => ?_
  cases x with
  | int k => cases e; exact ⟨k, is_int.mp i1, q H1 G1 x1 R1⟩
  | _ => cases e
theorem de_sl {e : Expr} {lo hi : Option Expr} {f : DM Dt} {g h : DM (Option Int)} {p2 pos : Pos} (he : DE X e f) (hl : DO X lo g) (hh : DO X hi h) : DE X (.Subscript e (.Slice lo hi none p2) pos) (mSl f g h) := by
  obtain ⟨t, p, o⟩ := he
  obtain ⟨t2, p2, o2⟩ := hl
  obtain ⟨t3, p3, o3⟩ := hh
  refine ⟨_, pe_slice (sl_list.or (sl_str.or sl_tupA)) p p2 p3, fun β P σ H G s b s' R e Q q => ?_⟩
  unfold mSl at e
  obtain ⟨⟨x, s1⟩, e1, e⟩ := Option.bind_eq_some_iff.mp e
  obtain ⟨⟨l, s2⟩, e2, e⟩ := Option.bind_eq_some_iff.mp e
  obtain ⟨⟨u, s3⟩, e3, e⟩ := Option.bind_eq_some_iff.mp e
  obtain ⟨d, e4, e⟩ := Option.bind_eq_some_iff.mp e
  cases e
  refine o β P σ H G s x s1 R e1 _ fun v H1 G1 x1 R1 i1 => ?_
  refine o2 β P σ H1 G1 s1 l s2 R1 e2 _ fun H2 G2 x2 R2 => ?_
  refine o3 β P σ H2 G2 s2 u s3 R2 e3 _ fun H3 G3 x3 R3 => ?_
  have i3 := IsD.mono (x2.trans x3) _ _ i1
  have xx := (x1.trans x2).trans x3
  unfold gSl at e4
  dsimp only at e4
  split at e4
  · rename_i z lo hi
    split at e4
    · rename_i c
      cases e4
      exact .inr (.inl ⟨z, is_str.mp i3, c, q _ H3 G3 xx R3 (is_str.mpr rfl)⟩)
    · cases e4
  · rename_i m lo hi
    cases e4
    obtain ⟨a, vs, rfl, h1, h2⟩ := is_lst.mp i3
    refine .inl ⟨a, vs, rfl, .inl (.inl (R3.gh _ _ h1)), fun l hl => ?_⟩
    exact q _ _ _ (xx.trans (Ext.new (R3.free hl))) (R3.new hl) (is_lst.mpr ⟨l, _, rfl, upd_same, IsL.mono (Ext.new (R3.free hl)) _ _ (cutD_ok h2 _ _)⟩)
  · rename_i m lo hi
    cases e4
    obtain ⟨a, vs, rfl, h1, h2⟩ := is_tup.mp i3
    refine .inr (.inr ⟨a, vs, rfl, ext_t R3.gh h1, fun c => ?_, fun _ l hl => ?_⟩)
    · refine q _ H3 G3 xx R3 ?_
      have z : cutD m l u = m := by
        rw [h2.len] at c
        unfold cutD
        rw [c.1, c.2]
        simp
      rw [z]; exact i3
    · exact q _ _ _ (xx.trans (Ext.new (R3.free hl))) (R3.new hl) (is_tup.mpr ⟨l, _, rfl, .inl (.inl upd_same), IsL.mono (Ext.new (R3.free hl)) _ _ (cutD_ok h2 _ _)⟩)
  · cases e4
omit [Me] in
def mChain (g g' : Dt → Dt → Option Dt) (f1 f2 f3 : DM Dt) : DM Dt := fun s => (f1 s).bind fun p => (f2 p.2).bind fun q => (g p.1 q.1).bind fun d => match d with
  | .bl true => (f3 q.2).bind fun r => (g' q.1 r.1).bind fun d' => some (d', r.2)
  | .bl false => some (.bl false, q.2)
  | _ => none
theorem te_chain {K : PySem.W.Frag} {r r' : R2} {g g' : Dt → Dt → Option Dt} {ta tb tc : TE} {fa fb fc : DM Dt} (hr : R2ok K r g) (hr' : R2ok K r' g') (ha : TEok K ta fa) (hb : TEok K tb fb) (hc : TEok K tc fc) : TEok K (tChain r r' ta tb tc) (mChain g g' fa fb fc) := by
  intro β P σ H G s d s' R h Q q
  unfold mChain at h
  obtain ⟨⟨x, s1⟩, e1, h⟩ := Option.bind_eq_some_iff.mp h
  obtain ⟨⟨y, s2⟩, e2, h⟩ := Option.bind_eq_some_iff.mp h
  obtain ⟨z, e3, h⟩ := Option.bind_eq_some_iff.mp h
  refine ha β P σ H G s x s1 R e1 _ fun v H1 G1 x1 R1 i1 => ?_
  refine hb β P σ H1 G1 s1 y s2 R1 e2 _ fun u H2 G2 x2 R2 i2 => ?_
  refine hr β P σ H2 G2 s2 v u x y z R2 (IsD.mono x2 _ _ i1) i2 e3 _ fun w H3 G3 x3 R3 i3 => ?_
  split at h
  · rw [is_bl.mp i3]
    obtain ⟨⟨z', s4⟩, e4, h⟩ := Option.bind_eq_some_iff.mp h
    obtain ⟨d', e5, h⟩ := Option.bind_eq_some_iff.mp h
    cases h
    refine ⟨true, rfl, iteT ?_⟩
    refine hc β P σ H3 G3 s2 z' s4 R3 e4 _ fun w' H4 G4 x4 R4 i4 => ?_
    exact hr' β P σ H4 G4 s4 u w' y z' d R4 (IsD.mono (x3.trans x4) _ _ i2) i4 e5 Q fun w5 H5 G5 x5 R5 i5 => q w5 H5 G5 ((((x1.trans x2).trans x3).trans x4).trans x5) R5 i5
  · rw [is_bl.mp i3]
    cases h
    exact ⟨false, rfl, iteF (q _ H3 G3 ((x1.trans x2).trans x3) R3 (is_bl.mpr rfl))⟩
  · cases h
theorem de_chain {op op' : CmpOp} {r r' : R2} {g g' : Dt → Dt → Option Dt} {a b c : Expr} {fa fb fc : DM Dt} {pos : Pos} (ho : OpR X (compareOp op) r) (hr : R2ok X.K r g) (ho' : OpR X (compareOp op') r') (hr' : R2ok X.K r' g') (ha : DE X a fa) (hb : DE X b fb) (hc : DE X c fc)
    (hm : lastMarks [op, op'] [b, c] = false := by with_unfolding_all rfl) : DE X (.Compare a [op, op'] [b, c] pos) (mChain g g' fa fb fc) := by
  obtain ⟨ta, pa, oa⟩ := ha
  obtain ⟨tb, pb, ob⟩ := hb
  obtain ⟨tc, pc, oc⟩ := hc
  exact ⟨_, pe_chain ho ho' pa pb pc hm, te_chain hr hr' oa ob oc⟩
end
omit [Me] in
def mCall (g : List Dt → Option Dt) (f : DM (List Dt)) : DM Dt := fun s => (f s).bind fun p => (g p.1).bind fun d => some (d, p.2)
omit [Me] in
def Rok (K : PySem.W.Frag) (r : List V → Hp → VK → Prop) (g : List Dt → Option Dt) : Prop := ∀ (β : Addr) (P : Hp) (σ : L2.St) (H G : Hp) (s : Sta) (vs : List V) (ds : List Dt) (d : Dt), Rel K β P σ H G s → IsL K β G ds vs → g ds = some d →
  ∀ Q : VK, (∀ v H' G', Ext G G' → Rel K β P σ H' G' s → IsD K β G' d v → Q v H') → r vs H Q
theorem te_call {K : PySem.W.Frag} {r : List V → Hp → VK → Prop} {g : List Dt → Option Dt} {t : TA} {f : DM (List Dt)} (hr : Rok K r g) (h : TAok K t f) : TEok K (tCB r t) (mCall g f) := by
  intro β P σ H G s d s' R e Q q
  unfold mCall at e
  obtain ⟨⟨x, s1⟩, e1, e⟩ := Option.bind_eq_some_iff.mp e
  obtain ⟨z, e2, e⟩ := Option.bind_eq_some_iff.mp e
  cases e
  refine h β P σ H G s x s1 R e1 _ fun vs H1 G1 x1 R1 i1 => ?_
  exact hr β P σ H1 G1 s1 vs x d R1 i1 e2 Q fun w H3 G3 x3 R3 i3 => q w H3 G3 (x1.trans x3) R3 i3
section
variable {X : Cx} {x : Str} {p pos : Pos} {e : Expr} {es : List Expr} {f : DM (List Dt)} {r : List V → Hp → VK → Prop} {g : List Dt → Option Dt} {id T : String}
theorem de_callB (hc : CallR X (.builtin id) r) (hr : Rok X.K r g) (hg : Gl X x) (hm : X.mg x = none) (hv : bootBuiltins x = some (.builtin id)) (ha : DA X (e :: es) f) (hn : x ≠ "__name__" := by decide) (hdb : (x == ("__debug__" : Str)) = false := by decide)
    (he : starEach (e :: es) X.env = (false, eval e X.env) :: starEach es X.env := by rfl) (hpl : (backTo pos (starEach es X.env)).any (·.1) = false := by rfl) : DE X (.Call (.Name x p) (e :: es) [] pos) (mCall g f) := by
  obtain ⟨t, p, o⟩ := ha
  exact ⟨_, pe_callB hc hg hm hv p hn hdb he hpl, te_call hr o⟩
theorem de_callT (hc : CallR X (.type T) r) (hr : Rok X.K r g) (hg : Gl X x) (hm : X.mg x = none) (hv : bootBuiltins x = some (.type T)) (ha : DA X (e :: es) f) (hn : x ≠ "__name__" := by decide) (hdb : (x == ("__debug__" : Str)) = false := by decide)
    (he : starEach (e :: es) X.env = (false, eval e X.env) :: starEach es X.env := by rfl) (hpl : (backTo pos (starEach es X.env)).any (·.1) = false := by rfl) : DE X (.Call (.Name x p) (e :: es) [] pos) (mCall g f) := by
  obtain ⟨t, p, o⟩ := ha
  exact ⟨_, pe_callTy hc hg hm hv p hn hdb he hpl, te_call hr o⟩
end
section
variable {K : PySem.W.Frag}
theorem one_of {β : Addr} {G : Hp} {d : Dt} {vs : List V} (h : IsL K β G [d] vs) : ∃ v, vs = [v] ∧ IsD K β G d v := by
  obtain ⟨v, r, rfl, h1, h2⟩ := isl_cons.mp h
  rw [isl_nil.mp h2]
  exact ⟨v, rfl, h1⟩
omit [Me] in
def gLen : List Dt → Option Dt
  | [.str y] => if y.length ≤ sizeLine then some (.int (y.length : Nat)) else none
  | [.tup l] => some (.int (l.length : Nat))
  | [.lst l] => some (.int (l.length : Nat))
  | _ => none
theorem ok_len : Rok K (fun xs H Q => ∃ x n, xs = [x] ∧ LenV K x H n ∧ Q (.int n) H) gLen := by
  intro β P σ H G s vs ds d R i e Q q
  unfold gLen at e
  split at e
  · rename_i y
    split at e
    · rename_i c
      cases e
      obtain ⟨v, rfl, h⟩ := one_of i
      rw [is_str.mp h]
      exact ⟨_, y.length, rfl, ⟨c, rfl⟩, q _ H G (Ext.refl G) R (is_int.mpr rfl)⟩
    · cases e
  · rename_i l
    cases e
    obtain ⟨v, rfl, h⟩ := one_of i
    obtain ⟨a, us, rfl, h1, h2⟩ := is_tup.mp h
    exact ⟨_, l.length, rfl, .inr ⟨us, ext_t R.gh h1, h2.len.symm⟩, q _ H G (Ext.refl G) R (is_int.mpr rfl)⟩
  · rename_i l
    cases e
    obtain ⟨v, rfl, h⟩ := one_of i
    obtain ⟨a, us, rfl, h1, h2⟩ := is_lst.mp h
    exact ⟨_, l.length, rfl, .inl ⟨us, .inl (.inl (R.gh _ _ h1)), h2.len.symm⟩, q _ H G (Ext.refl G) R (is_int.mpr rfl)⟩
  · cases e
omit [Me] in
def gInt1 : List Dt → Option Dt
  | [.int i] => some (.int i)
  | [.bl k] => some (.int (if k then 1 else 0))
  | _ => none
theorem ok_int1 : Rok K (fun xs H Q => (∃ i, xs = [.int i] ∧ Q (.int i) H) ∨ ∃ k, xs = [.bl k] ∧ Q (.int (if k then 1 else 0)) H) gInt1 := by
  intro β P σ H G s vs ds d R i e Q q
  unfold gInt1 at e
  split at e
  · cases e
    obtain ⟨v, rfl, h⟩ := one_of i
    exact .inl ⟨_, by rw [is_int.mp h], q _ H G (Ext.refl G) R (is_int.mpr rfl)⟩
  · cases e
    obtain ⟨v, rfl, h⟩ := one_of i
    exact .inr ⟨_, by rw [is_bl.mp h], q _ H G (Ext.refl G) R (is_int.mpr rfl)⟩
  · cases e
omit [Me] in
def bools : List Dt → Option (List Bool)
  | [] => some []
  | .bl b :: r => (bools r).bind fun bs => some (b :: bs)
  | _ => none
theorem bools_ok {β : Addr} {G : Hp} : ∀ {l : List Dt} {vs : List V} {bs : List Bool}, IsL K β G l vs → bools l = some bs → vs = bs.map V.bl
  | [], vs, bs, h, e => by cases e; exact isl_nil.mp h
  | .bl b :: r, vs, bs, h, e => by
    obtain ⟨v, us, rfl, h1, h2⟩ := isl_cons.mp h
    unfold bools at e
    obtain ⟨cs, e1, e⟩ := Option.bind_eq_some_iff.mp e
    cases e
    rw [is_bl.mp h1, bools_ok h2 e1]
    rfl
  | .non :: _, _, _, _, e => by cases e
  | .int _ :: _, _, _, _, e => by cases e
  | .str _ :: _, _, _, _, e => by cases e
  | .tup _ :: _, _, _, _, e => by cases e
  | .lst _ :: _, _, _, _, e => by cases e
  | .bag :: _, _, _, _, e => by cases e
  | .dic _ _ :: _, _, _, _, e => by cases e
  | .ins _ _ _ :: _, _, _, _, e => by cases e
  | .err _ _ _ :: _, _, _, _, e => by cases e
  | .old _ :: _, _, _, _, e => by cases e
omit [Me] in
def gAll : List Dt → Option Dt
  | [.lst l] => (bools l).bind fun bs => some (.bl (bs.all id))
  | _ => none
theorem ok_all : Rok K (rAll K) gAll := by
  intro β P σ H G s vs ds d R i e Q q
  unfold gAll at e
  split at e
  · obtain ⟨bs, e1, e⟩ := Option.bind_eq_some_iff.mp e
    cases e
    obtain ⟨v, rfl, h⟩ := one_of i
    obtain ⟨a, us, rfl, h1, h2⟩ := is_lst.mp h
    exact ⟨a, bs, rfl, .inl (.inl (by rw [← bools_ok h2 e1]; exact R.gh _ _ h1)), q _ H G (Ext.refl G) R (is_bl.mpr rfl)⟩
  · cases e
omit [Me] in
def gListOf : List Dt → Option Dt
  | [.lst l] => some (.lst l)
  | [.tup l] => some (.lst l)
  | _ => none
theorem ok_listOf : Rok K (fun xs H Q => ∃ p ys, xs = [.ref p] ∧ (SqL K H p ys ∨ SqT K H p ys) ∧ ∀ l, H l = none → Q (.ref l) (upd H l (.lst ys))) gListOf := by
  intro β P σ H G s vs ds d R i e Q q
  unfold gListOf at e
  split at e
  · cases e
    obtain ⟨v, rfl, h⟩ := one_of i
    obtain ⟨a, us, rfl, h1, h2⟩ := is_lst.mp h
    refine ⟨a, us, rfl, .inl (.inl (.inl (R.gh _ _ h1))), fun l hl => ?_⟩
    exact q _ _ _ (Ext.new (R.free hl)) (R.new hl) (is_lst.mpr ⟨l, _, rfl, upd_same, IsL.mono (Ext.new (R.free hl)) _ _ h2⟩)
  · cases e
    obtain ⟨v, rfl, h⟩ := one_of i
    obtain ⟨a, us, rfl, h1, h2⟩ := is_tup.mp h
    refine ⟨a, us, rfl, .inr (ext_t R.gh h1), fun l hl => ?_⟩
    exact q _ _ _ (Ext.new (R.free hl)) (R.new hl) (is_lst.mpr ⟨l, _, rfl, upd_same, IsL.mono (Ext.new (R.free hl)) _ _ h2⟩)
  · cases e
end
omit [Me] in
def tyN : Dt → String
  | .non => "NoneType"
  | .bl _ => "bool"
  | .int _ => "int"
  | .str _ => "str"
  | .tup _ => "tuple"
  | .lst _ => "list"
  | .bag => "list"
  | .dic _ _ => "dict"
  | .ins _ _ _ => "object"
  | .err _ _ _ => "object"
  | .old _ => "list"
omit [Me] in
def insB : Dt → Bool
  | .ins _ _ _ => true
  | .err _ _ _ => true
  | _ => false
theorem ty_ok {K : PySem.W.Frag} {β : Addr} {P : Hp} {σ : L2.St} {H G : Hp} {s : Sta} {d : Dt} {v : V} (R : Rel K β P σ H G s) (h : IsD K β G d v) (hi : insB d = false) : TyX K H v (.type (tyN d)) := by
  cases d with
  | ins c ks l => cases hi
  | err c ks l => cases hi
  | non => rw [is_non.mp h]; exact .base .non
  | bl b => rw [is_bl.mp h]; exact .base (.bl b)
  | int b => rw [is_int.mp h]; exact .base (.int b)
  | str b => rw [is_str.mp h]; exact .base (.str b)
  | bag =>
    obtain ⟨vs, h1, _, _⟩ := R.bag
    rw [is_bag.mp h]; exact .base (.lst h1)
  | lst l =>
    obtain ⟨a, us, rfl, h1, h2⟩ := is_lst.mp h
    exact .base (.lst (R.gh _ _ h1))
  | dic ks l =>
    obtain ⟨a, us, rfl, h1, h2⟩ := is_dic.mp h
    exact .base (.dK (R.gh _ _ h1))
  | old l =>
    obtain ⟨a, o, us, rfl, h1, h2⟩ := is_old.mp h
    exact .base (.frz (R.gh _ _ h1))
  | tup l =>
    obtain ⟨a, us, rfl, h1, h2⟩ := is_tup.mp h
    rcases ext_t R.gh h1 with (h | ⟨o, h⟩) | ⟨o, its, n, h, c, _⟩
    · exact .base (.tup h)
    · exact .fTuple h
    · exact .kTuple h c
omit [Me] in
def basics : List String := ["int", "str", "bool", "tuple", "list", "dict"]
omit [Me] in
/-- isinstance of a built-in class -/
def kitD (d : Dt) (T : String) : Option Bool := if insB d = true then (if basics.contains T = true then some false else none) else L2.kitB (tyN d) T
theorem kit_ok {K : PySem.W.Frag} {β : Addr} {P : Hp} {σ : L2.St} {H G : Hp} {s : Sta} {d : Dt} {v : V} {T : String} {b : Bool} (R : Rel K β P σ H G s) (h : IsD K β G d v) (e : kitD d T = some b) : ∃ t, TyE K H v t ∧ PySem.W.kitOne K t (.type T) = some b := by
  unfold kitD at e
  cases hi : insB d with
  | false =>
    rw [hi, if_neg Bool.false_ne_true] at e
    exact ⟨_, .inl (ty_ok R h hi), L2.kit_ty e⟩
  | true =>
    rw [hi, if_pos rfl] at e
    split at e
    · rename_i c
      cases e
      cases d with
      | ins c' ks l =>
        obtain ⟨a, C, dx, vs, rfl, h0, h1, _⟩ := is_ins.mp h
        exact ⟨.ref C, .inl (.base (.ins (R.gh _ _ h1) h0.cls h0.ha h0.hn h0.ht h0.hm)), h0.kit T (List.contains_iff_mem.mp c)⟩
      | err c' ks l =>
        obtain ⟨a, C, dx, vs, rfl, h0, h1, h2, _⟩ := is_err.mp h
        exact ⟨.ref C, .inr ⟨a, C, dx, _, rfl, rfl, R.gh _ _ h1, R.gh _ _ h2, h0.exc⟩, h0.kin (List.contains_iff_mem.mp c)⟩
      | _ => cases hi
    · cases e
theorem kit_ok2 {K : PySem.W.Frag} {β : Addr} {P : Hp} {σ : L2.St} {H G : Hp} {s : Sta} {d : Dt} {v : V} {T T2 : String} {b b2 : Bool} (R : Rel K β P σ H G s) (h : IsD K β G d v) (e : kitD d T = some b) (e2 : kitD d T2 = some b2) : ∃ t, TyE K H v t ∧ PySem.W.kitOne K t (.type T) = some b ∧ PySem.W.kitOne K t (.type T2) = some b2 := by
  unfold kitD at e e2
  cases hi : insB d with
  | false =>
    rw [hi, if_neg Bool.false_ne_true] at e e2
    exact ⟨_, .inl (ty_ok R h hi), L2.kit_ty e, L2.kit_ty e2⟩
  | true =>
    rw [hi, if_pos rfl] at e e2
    split at e
    · rename_i c
      split at e2
      · rename_i c2
        cases e
        cases e2
        cases d with
        | ins c' ks l =>
          obtain ⟨a, C, dx, vs, rfl, h0, h1, _⟩ := is_ins.mp h
          exact ⟨.ref C, .inl (.base (.ins (R.gh _ _ h1) h0.cls h0.ha h0.hn h0.ht h0.hm)), h0.kit T (List.contains_iff_mem.mp c), h0.kit T2 (List.contains_iff_mem.mp c2)⟩
        | err c' ks l =>
          obtain ⟨a, C, dx, vs, rfl, h0, h1, h2, _⟩ := is_err.mp h
          exact ⟨.ref C, .inr ⟨a, C, dx, _, rfl, rfl, R.gh _ _ h1, R.gh _ _ h2, h0.exc⟩, h0.kin (List.contains_iff_mem.mp c), h0.kin (List.contains_iff_mem.mp c2)⟩
        | _ => cases hi
      · cases e2
    · cases e
omit [Me] in
def mIsi (B : Dt → Bool) (f : DM Dt) : DM Dt := fun s => (f s).bind fun p => some (.bl (B p.1), p.2)
omit [Me] in
def isInt : Dt → Bool
  | .bl _ => true
  | .int _ => true
  | _ => false
omit [Me] in
def isStr : Dt → Bool
  | .str _ => true
  | _ => false
omit [Me] in
def isBl : Dt → Bool
  | .bl _ => true
  | _ => false
omit [Me] in
def isTup : Dt → Bool
  | .tup _ => true
  | _ => false
omit [Me] in
def isLst : Dt → Bool
  | .lst _ => true
  | .old _ => true
  | .bag => true
  | _ => false
theorem kit_int (d : Dt) : kitD d "int" = some (isInt d) := by cases d <;> simp only [kitD, insB, Bool.false_eq_true, if_false, if_true, tyN, isInt] <;> decide +kernel
theorem kit_str (d : Dt) : kitD d "str" = some (isStr d) := by cases d <;> simp only [kitD, insB, Bool.false_eq_true, if_false, if_true, tyN, isStr] <;> decide +kernel
theorem kit_bl (d : Dt) : kitD d "bool" = some (isBl d) := by cases d <;> simp only [kitD, insB, Bool.false_eq_true, if_false, if_true, tyN, isBl] <;> decide +kernel
theorem kit_tup (d : Dt) : kitD d "tuple" = some (isTup d) := by cases d <;> simp only [kitD, insB, Bool.false_eq_true, if_false, if_true, tyN, isTup] <;> decide +kernel
theorem kit_lst (d : Dt) : kitD d "list" = some (isLst d) := by cases d <;> simp only [kitD, insB, Bool.false_eq_true, if_false, if_true, tyN, isLst] <;> decide +kernel
section
variable {X : Cx} {p pos p2 : Pos} {e : Expr} {f : DM Dt} {T T2 : String} {x x2 : Str} {B B2 : Dt → Bool}
theorem de_isi (hB : ∀ d, kitD d T = some (B d)) (hg : Gl X "isinstance") (hm : X.mg "isinstance" = none) (hv : bootBuiltins "isinstance" = some (.builtin "isinstance")) (he : DE X e f)
    (hx : Gl X x) (hxm : X.mg x = none) (hxv : bootBuiltins x = some (.type T)) (hn : x ≠ "__name__" := by decide) (hd : (x == ("__debug__" : Str)) = false := by decide)
    (hs : starEach [e, .Name x p2] X.env = (false, eval e X.env) :: starEach [.Name x p2] X.env := by rfl) (hpl : (backTo pos (starEach [.Name x p2] X.env)).any (·.1) = false := by rfl) :
    DE X (.Call (.Name "isinstance" p) [e, .Name x p2] [] pos) (mIsi B f) := by
  obtain ⟨t, pp, o⟩ := he
  refine ⟨_, pe_callB call_isE1 hg hm hv (pa_cons pp (pa_cons (pe_bltn (v := .ty T) hx hxm hxv rfl hn hd) pa_nil) hs) (by decide) (by decide) hs hpl, fun β P σ H G s b s' R e Q q => ?_⟩
  unfold mIsi at e
  obtain ⟨⟨y, s1⟩, e1, e⟩ := Option.bind_eq_some_iff.mp e
  cases e
  refine o β P σ H G s y s1 R e1 _ fun v H1 G1 x1 R1 i1 => ?_
  obtain ⟨tv, y1, y2⟩ := kit_ok R1 i1 (hB y)
  exact ⟨v, .ty T, tv, .type T, B y, rfl, .ty T, y1, y2, q _ H1 G1 x1 R1 (is_bl.mpr rfl)⟩
theorem de_isi2 (hB : ∀ d, kitD d T = some (B d)) (hB2 : ∀ d, kitD d T2 = some (B2 d)) (hg : Gl X "isinstance") (hm : X.mg "isinstance" = none) (hv : bootBuiltins "isinstance" = some (.builtin "isinstance")) (he : DE X e f)
    (hx : Gl X x) (hxm : X.mg x = none) (hxv : bootBuiltins x = some (.type T)) (hx2 : Gl X x2) (hxm2 : X.mg x2 = none) (hxv2 : bootBuiltins x2 = some (.type T2)) {k : Nat} {p3 pt : Pos}
    (hn : x ≠ "__name__" := by decide) (hd : (x == ("__debug__" : Str)) = false := by decide) (hn2 : x2 ≠ "__name__" := by decide) (hd2 : (x2 == ("__debug__" : Str)) = false := by decide)
    (hs : starEach [e, .Tuple [.Name x p2, .Name x2 p3] k pt] X.env = (false, eval e X.env) :: starEach [.Tuple [.Name x p2, .Name x2 p3] k pt] X.env := by rfl) (hpl : (backTo pos (starEach [.Tuple [.Name x p2, .Name x2 p3] k pt] X.env)).any (·.1) = false := by rfl) :
    DE X (.Call (.Name "isinstance" p) [e, .Tuple [.Name x p2, .Name x2 p3] k pt] [] pos) (mIsi (fun d => B d || B2 d) f) := by
  obtain ⟨t, pp, o⟩ := he
  refine ⟨_, pe_callB call_isET hg hm hv (pa_cons pp (pa_cons (pe_tup (pa_cons (pe_bltn (v := .ty T) hx hxm hxv rfl hn hd) (pa_cons (pe_bltn (v := .ty T2) hx2 hxm2 hxv2 rfl hn2 hd2) pa_nil))) pa_nil) hs) (by decide) (by decide) hs hpl, fun β P σ H G s b s' R e Q q => ?_⟩
  unfold mIsi at e
  obtain ⟨⟨y, s1⟩, e1, e⟩ := Option.bind_eq_some_iff.mp e
  cases e
  refine o β P σ H G s y s1 R e1 _ fun v H1 G1 x1 R1 i1 => ?_
  refine ⟨by show 2 ≤ sizeLine; decide, fun l hl => ?_⟩
  have R2 := R1.new (o := .tup [.ty T, .ty T2]) hl
  have x2 := Ext.new (o := .tup [.ty T, .ty T2]) (R1.free hl)
  obtain ⟨tv, y1, y2, y3⟩ := kit_ok2 R2 (IsD.mono x2 _ _ i1) (hB y) (hB2 y)
  refine ⟨v, l, [.ty T, .ty T2], tv, [.type T, .type T2], B y || B2 y, rfl, upd_same, .cons (.ty T) (.cons (.ty T2) .nil), y1, ?_, q _ _ _ (x1.trans x2) R2 (is_bl.mpr rfl)⟩
  refine L2.kitAny_cons (b := B y) y2 (fun h => ?_) (fun h => by rw [h]; rfl)
  rw [h, Bool.false_or]
  exact L2.kitAny_cons (b := B2 y) y3 (fun h => by rw [h]; exact L2.kitAny_nil) (fun h => h)
end
omit [Me] in
def mM1 (g : Str → Dt → Option Dt) (f1 f2 : DM Dt) : DM Dt := fun s => (f1 s).bind fun p => match p.1 with
  | .str a => (f2 p.2).bind fun q => (g a q.1).bind fun d => some (d, q.2)
  | _ => none
omit [Me] in
def gJoin (a : Str) : Dt → Option Dt
  | .lst l => (txts l).bind fun ys => if (ys.map (·.length)).sum + ys.length * a.length ≤ 16777216 then some (.str (Txt.join a ys)) else none
  | _ => none
where txts : List Dt → Option (List Str)
  | [] => some []
  | .str b :: r => (txts r).bind fun bs => some (b :: bs)
  | _ => none
theorem strs_ok {K : PySem.W.Frag} {β : Addr} {G : Hp} : ∀ {l : List Dt} {vs : List V} {bs : List Str}, IsL K β G l vs → gJoin.txts l = some bs → vs = bs.map V.str
  | [], vs, bs, h, e => by cases e; exact isl_nil.mp h
  | .str b :: r, vs, bs, h, e => by
    obtain ⟨v, us, rfl, h1, h2⟩ := isl_cons.mp h
    unfold gJoin.txts at e
    obtain ⟨cs, e1, e⟩ := Option.bind_eq_some_iff.mp e
    cases e
    rw [is_str.mp h1, strs_ok h2 e1]
    rfl
  | .non :: _, _, _, _, e => by cases e
  | .int _ :: _, _, _, _, e => by cases e
  | .bl _ :: _, _, _, _, e => by cases e
  | .tup _ :: _, _, _, _, e => by cases e
  | .lst _ :: _, _, _, _, e => by cases e
  | .bag :: _, _, _, _, e => by cases e
  | .dic _ _ :: _, _, _, _, e => by cases e
  | .ins _ _ _ :: _, _, _, _, e => by cases e
  | .err _ _ _ :: _, _, _, _, e => by cases e
  | .old _ :: _, _, _, _, e => by cases e
section
variable {X : Cx} {o e : Expr} {f1 f2 : DM Dt} {apos pos : Pos}
omit [Me] in
def M1ok (K : PySem.W.Frag) (r : V → List V → Hp → VK → Prop) (g : Str → Dt → Option Dt) : Prop := ∀ (β : Addr) (P : Hp) (σ : L2.St) (H G : Hp) (s : Sta) (a : Str) (y : V) (dy d : Dt), Rel K β P σ H G s → IsD K β G dy y → g a dy = some d →
  ∀ Q : VK, (∀ v H' G', Ext G G' → Rel K β P σ H' G' s → IsD K β G' d v → Q v H') → r (.str a) [y] H Q
theorem te_m1 {K : PySem.W.Frag} {r : V → List V → Hp → VK → Prop} {g : Str → Dt → Option Dt} {to te : TE} (hr : M1ok K r g) (ho : TEok K to f1) (he : TEok K te f2) : TEok K (tM1 r to te) (mM1 g f1 f2) := by
  intro β P σ H G s d s' R h Q q
  unfold mM1 at h
  obtain ⟨⟨x, s1⟩, e1, h⟩ := Option.bind_eq_some_iff.mp h
  cases x with
  | str a =>
    obtain ⟨⟨y, s2⟩, e2, h⟩ := Option.bind_eq_some_iff.mp h
    obtain ⟨z, e3, h⟩ := Option.bind_eq_some_iff.mp h
    cases h
    refine ho β P σ H G s _ s1 R e1 _ fun v H1 G1 x1 R1 i1 => ?_
    rw [is_str.mp i1]
    refine ⟨⟨a, rfl⟩, he β P σ H1 G1 s1 y s2 R1 e2 _ fun u H2 G2 x2 R2 i2 => ?_⟩
    exact hr β P σ H2 G2 s2 a u y d R2 i2 e3 Q fun w H3 G3 x3 R3 i3 => q w H3 G3 ((x1.trans x2).trans x3) R3 i3
  | _ => cases h
theorem ok_join {K : PySem.W.Frag} : M1ok K (fun x xs H Q => ∃ a p, ∃ ys : List Str, x = .str a ∧ xs = [.ref p] ∧ (SqL K H p (ys.map V.str) ∨ SqT K H p (ys.map V.str)) ∧
    (ys.map (·.length)).sum + ys.length * a.length ≤ 16777216 ∧ Q (.str (Txt.join a ys)) H) gJoin := by
  intro β P σ H G s a y dy d R i e Q q
  unfold gJoin at e
  split at e
  · obtain ⟨ys, e1, e⟩ := Option.bind_eq_some_iff.mp e
    split at e
    · rename_i c
      cases e
      obtain ⟨b, us, rfl, h1, h2⟩ := is_lst.mp i
      exact ⟨a, b, ys, rfl, rfl, .inl (.inl (.inl (by rw [← strs_ok h2 e1]; exact R.gh _ _ h1))), c, q _ H G (Ext.refl G) R (is_str.mpr rfl)⟩
    · cases e
  · cases e
theorem de_join (ho : DE X o f1) (he : DE X e f2) (hs : starEach [e] X.env = [(false, eval e X.env)] := by rfl) (hbase : attributeBase o "join" X.env (eval o X.env) = eval o X.env := by rfl) (hline : (apos.endLine == pos.line) = true := by rfl) :
    DE X (.Call (.Attribute o "join" apos) [e] [] pos) (mM1 gJoin f1 f2) := by
  obtain ⟨t, p1, o1⟩ := ho
  obtain ⟨u, p2, o2⟩ := he
  exact ⟨_, pe_join p1 p2 hs hbase hline, te_m1 ok_join o1 o2⟩
end
end DL
set_option maxHeartbeats 4000000
namespace DL
open PySem PySem.Spec PyProof.Rows L2
variable [Tabs] [Me]
omit [Me] in
abbrev FD := List Dt → List Dt → Option (Dt × List Dt)
omit [Me] in
def spD (K : PySem.W.Frag) (n : Nat) (F : FD) : Sp := fun vs H Q _ => ∃ (β : Addr) (P G : Hp) (ds bg : List Dt) (r : Dt) (bg' : List Dt), vs.length = n ∧ IsL K β G ds vs ∧ Rel K β P [] H G ⟨[], bg⟩ ∧ F ds bg = some (r, bg') ∧
  ∀ v H' G', Ext G G' → Rel K β P [] H' G' ⟨[], bg'⟩ → IsD K β G' r v → Q v H'
omit [Me] in
def mApp (F : FD) (f : DM (List Dt)) : DM Dt := fun s => (f s).bind fun p => (F p.1 p.2.bag).bind fun q => some (q.1, { p.2 with bag := q.2 })
section
variable {X : Cx}
theorem te_app {n : Nat} {K : PySem.W.Frag} {F : FD} {t : TA} {f : DM (List Dt)} (ho : TAok K t f) (hn : ∀ s ds s', f s = some (ds, s') → ds.length = n) : TEok K (tCall (spD K n F) [] E0 t) (mApp F f) := by
  intro β P σ H G s d s' R e Q q
  unfold mApp at e
  obtain ⟨⟨x, s1⟩, e1, e⟩ := Option.bind_eq_some_iff.mp e
  obtain ⟨⟨y, bg'⟩, e2, e⟩ := Option.bind_eq_some_iff.mp e
  cases e
  refine ho β P σ H G s x s1 R e1 _ fun vs H1 G1 x1 R1 i1 => ?_
  rw [List.append_nil]
  exact ⟨β, shut β H1 G1, G1, x, s1.bag, y, bg', by rw [i1.len]; exact hn _ _ _ e1, i1, R1.callee, e2, fun v H' G' x2 C i => q v H' G' (x1.trans x2) (R1.back x2 C) i⟩
theorem len_nil {n : Nat} (h : n = 0 := by rfl) : ∀ s ds s', mNil s = some (ds, s') → ds.length = n := fun s ds s' e => by cases e; exact h.symm
theorem len_cons {f : DM Dt} {g : DM (List Dt)} {n m : Nat} (hg : ∀ s ds s', g s = some (ds, s') → ds.length = n) (h : m = n + 1 := by rfl) : ∀ s ds s', mCons f g s = some (ds, s') → ds.length = m := fun s ds s' e => by
  unfold mCons at e
  obtain ⟨⟨x, s1⟩, e1, e⟩ := Option.bind_eq_some_iff.mp e
  obtain ⟨⟨y, s2⟩, e2, e⟩ := Option.bind_eq_some_iff.mp e
  cases e
  simp [hg _ _ _ e2, h]
theorem de_call {k : Nat} {f : Addr} {fd : FuncData} {ps : List Str} {n : Nat} {F : FD} {x : Str} {e : Expr} {es : List Expr} {p pos : Pos} {g : DM (List Dt)} (FF : FnOk X.prog X.w X.K X.mg X.base CX0 k f fd ps (spD X.K n F)) (hr : Room k X.A) (hg : Gl X x) (hm : X.mg x = some (.ref f)) (hk : PySem.W.keepIn X.K (.ref f) = true) (hb : Binds X.K fd ps [])
    (ha : DA X (e :: es) g) (hn : ∀ s ds s', g s = some (ds, s') → ds.length = n) (hdb : (x == ("__debug__" : Str)) = false := by decide) (he : starEach (e :: es) X.env = (false, eval e X.env) :: starEach es X.env := by rfl) (hpl : (backTo pos (starEach es X.env)).any (·.1) = false := by rfl) :
    DE X (.Call (.Name x p) (e :: es) [] pos) (mApp F g) := by
  obtain ⟨t, p1, o1⟩ := ha
  exact ⟨_, pe_call FF hr hg hm hk hb .nil pass0 p1 hdb he hpl, te_app o1 hn⟩
theorem de_call0 {k : Nat} {f : Addr} {fd : FuncData} {ps : List Str} {F : FD} {x : Str} {p pos : Pos} (FF : FnOk X.prog X.w X.K X.mg X.base CX0 k f fd ps (spD X.K 0 F)) (hr : Room k X.A) (hg : Gl X x) (hm : X.mg x = some (.ref f)) (hk : PySem.W.keepIn X.K (.ref f) = true) (hb : Binds X.K fd ps [])
    (hdb : (x == ("__debug__" : Str)) = false := by decide) : DE X (.Call (.Name x p) [] [] pos) (mApp F mNil) := by
  refine ⟨_, pe_call0 FF hr hg hm hk hb .nil pass0 hdb, ?_⟩
  exact te_app (t := tNil) (fun β P σ H G s b s' R e Q q => by cases e; exact q _ H G (Ext.refl G) R (isl_nil.mpr rfl)) len_nil
end
omit [Me] in
def DG (X : Cx) (tg : Expr) (is : List Nat) (h : Dt → Sta → Option Sta) : Prop := ∃ g, PG X tg g ∧ ∀ (β : Addr) (P : Hp) (σ : L2.St) (H G : Hp) (s : Sta) (d : Dt) (v : V) (s' : Sta), Rel X.K β P σ H G s → IsD X.K β G d v → h d s = some s' →
  ∀ Q : L2.St → Hp → Prop, (∀ σ' H' G', Ext G G' → Rel X.K β P σ' H' G' s' → (∀ j, j ∉ is → σ'[j]? = σ[j]?) → σ'.length = σ.length → Q σ' H') → g v σ H Q
omit [Me] in
def DGs (X : Cx) (tgs : List Expr) (is : List Nat) (h : List Dt → Sta → Option Sta) : Prop := ∃ g, PGs X tgs g ∧ ∀ (β : Addr) (P : Hp) (σ : L2.St) (H G : Hp) (s : Sta) (ds : List Dt) (vs : List V) (s' : Sta), Rel X.K β P σ H G s → IsL X.K β G ds vs → h ds s = some s' →
  ∀ Q : L2.St → Hp → Prop, (∀ σ' H' G', Ext G G' → Rel X.K β P σ' H' G' s' → (∀ j, j ∉ is → σ'[j]? = σ[j]?) → σ'.length = σ.length → Q σ' H') → g vs σ H Q
omit [Me] in
def hName (i : Nat) (d : Dt) (s : Sta) : Option Sta := some { s with sl := s.sl.set i (some (.dat d)) }
omit [Me] in
def hNil : List Dt → Sta → Option Sta
  | [], s => some s
  | _, _ => none
omit [Me] in
def hCons (h : Dt → Sta → Option Sta) (k : List Dt → Sta → Option Sta) : List Dt → Sta → Option Sta
  | d :: r, s => (h d s).bind (k r)
  | [], _ => none
omit [Me] in
def hTup (n : Nat) (k : List Dt → Sta → Option Sta) : Dt → Sta → Option Sta
  | .tup l, s => if l.length = n then k l s else none
  | _, _ => none
omit [Me] in
/-- bag[i] = .. -/
def hBag (fo fi : DM Dt) : Dt → Sta → Option Sta := fun d s => (fo s).bind fun p => match p.1 with
  | .bag => (fi p.2).bind fun q => match q.1 with
    | .int k => (ixN q.2.bag.length k).bind fun j => if plain d = true then some { q.2 with bag := q.2.bag.set j d } else none
    | _ => none
  | _ => none
section
variable {X : Cx}
theorem Rel.setBag {K : PySem.W.Frag} {β : Addr} {P : Hp} {σ : L2.St} {H G : Hp} {s : Sta} (R : Rel K β P σ H G s) {bg : List Dt} {us : List V} (h : IsL K β G bg us) : Rel K β P σ (upd H β (.lst us)) G { s with bag := bg } where
  len := R.len
  gh := fun a o e => by
    obtain ⟨vs, h1, h2, _⟩ := R.bag
    rw [upd_ne (ne_of_none e h2)]; exact R.gh a o e
  pr := fun a o e => by
    have n : a ≠ β := fun z => by subst z; rw [R.pb] at e; cases e
    rw [upd_ne n]; exact R.pr a o e
  pb := R.pb
  bag := by
    obtain ⟨vs, h1, h2, _⟩ := R.bag
    exact ⟨us, upd_same, h2, h⟩
  dat := R.dat
  own := fun i l kk e => by
    obtain ⟨p, vs, h1, h2, h3, h4, h5, h6⟩ := R.own i l _ e
    exact ⟨p, vs, h1, by rw [upd_ne h5]; exact h2, h3, h4, h5, h6⟩
  dj := R.dj
  obj := fun i c ks l e => by
    obtain ⟨p, C, dx, vs, h1, h0, h2, h3⟩ := R.obj i c ks l e
    have n : p ≠ β := fun z => by
      obtain ⟨us, b1, _⟩ := R.bag
      rw [← z, h2] at b1
      cases b1
    exact ⟨p, C, dx, vs, h1, h0, by rw [upd_ne n]; exact h2, h3⟩
  oj := R.oj
  fns := R.fns
  tabs := fun q hq => by
    obtain ⟨t, g, n⟩ := R.tabs q hq
    obtain ⟨ws, b1, _⟩ := R.bag
    exact ⟨t.of (upd_ne (t.neL b1)) (Ext.refl G), g, n⟩
  pt := R.pt
  nt := R.nt
theorem dg_name {i : Nat} {x : Str} {pos : Pos} (hN : X.N.Nodup) (hi : X.N[i]? = some x) (hx : Loc X.env.scope x) (hf : X.fn x = true ∨ X.env.scope.names.lookup x = some .local := by first | exact .inl rfl | exact .inr rfl | assumption) : DG X (.Name x pos) [i] (hName i) := by
  refine ⟨_, pg_name hN hi hx hf, fun β P σ H G s d v s' R h e Q q => ?_⟩
  cases e
  refine q _ H G (Ext.refl G) (R.set h) (fun j hj => ?_) (by simp)
  rw [List.getElem?_set_ne]
  intro e; apply hj; simp [e]
theorem dgs_nil : DGs X [] [] hNil := ⟨_, pgs_nil, fun β P σ H G s ds vs s' R h e Q q => by
  cases ds with
  | nil => cases e; exact ⟨isl_nil.mp h, q σ H G (Ext.refl G) R (fun _ _ => rfl) rfl⟩
  | cons d r => cases e⟩
theorem dgs_cons {e : Expr} {es : List Expr} {is js : List Nat} {h : Dt → Sta → Option Sta} {k : List Dt → Sta → Option Sta} (h1 : DG X e is h) (h2 : DGs X es js k) (hs : (assignEach (e :: es) X.env).map (·.2) = assign e X.env :: (assignEach es X.env).map (·.2) := by rfl) :
    DGs X (e :: es) (is ++ js) (hCons h k) := by
  obtain ⟨g, p1, o1⟩ := h1
  obtain ⟨g2, p2, o2⟩ := h2
  refine ⟨_, pgs_cons p1 p2 hs, fun β P σ H G s ds vs s' R hi e Q q => ?_⟩
  cases ds with
  | nil => cases e
  | cons d r =>
    obtain ⟨v, us, rfl, i1, i2⟩ := isl_cons.mp hi
    obtain ⟨s1, e1, e2⟩ := Option.bind_eq_some_iff.mp (show (h d s).bind (k r) = some s' from e)
    refine ⟨v, us, rfl, o1 β P σ H G s d v s1 R i1 e1 _ fun σ1 H1 G1 x1 R1 c1 l1 => ?_⟩
    refine o2 β P σ1 H1 G1 s1 r us s' R1 (IsL.mono x1 _ _ i2) e2 _ fun σ2 H2 G2 x2 R2 c2 l2 => ?_
    refine q σ2 H2 G2 (x1.trans x2) R2 (fun j hj => ?_) (l2.trans l1)
    rw [List.mem_append, not_or] at hj
    exact (c2 j hj.2).trans (c1 j hj.1)
theorem dg_tup {es : List Expr} {k : Nat} {pos : Pos} {n : Nat} {is : List Nat} {h : List Dt → Sta → Option Sta} (hc : X.calm = true) (hg : DGs X es is h) (hn : (assignEach es X.env).length = n := by rfl) (hst : (assignEach es X.env).findIdx? (·.1) = none := by rfl) :
    DG X (.Tuple es k pos) is (hTup n h) := by
  obtain ⟨g, p1, o1⟩ := hg
  refine ⟨_, pg_tup hc p1 hn hst, fun β P σ H G s d v s' R hi e Q q => ?_⟩
  cases d with
  | tup l =>
    obtain ⟨a, vs, rfl, h1, h2⟩ := is_tup.mp hi
    unfold hTup at e
    dsimp only at e
    split at e
    · rename_i c
      exact ⟨a, vs, rfl, ext_t R.gh h1, by rw [h2.len]; exact c, o1 β P σ H G s l vs s' R h2 e Q q⟩
    · cases e
  | _ => cases e
theorem dg_bag {o i : Expr} {fo fi : DM Dt} {pos : Pos} (ho : DE X o fo) (hi : DE X i fi)
    (ha : ∀ v, assign (.Subscript o i pos) X.env v = (do
      let ov ← holding [v] (eval o X.env)
      let iv ← holding [v, ov] (eval i X.env)
      standAt pos
      holding [v, ov, iv] (setItem ov iv v)
      release [v, ov, iv] []) := by intro _; rfl) : DG X (.Subscript o i pos) [] (hBag fo fi) := by
  obtain ⟨t, p1, o1⟩ := ho
  obtain ⟨u, p2, o2⟩ := hi
  refine ⟨_, pg_sub p1 p2 set_list ha, fun β P σ H G s d v s' R h e Q q => ?_⟩
  unfold hBag at e
  obtain ⟨⟨x, s1⟩, e1, e⟩ := Option.bind_eq_some_iff.mp e
  cases x with
  | bag =>
    obtain ⟨⟨y, s2⟩, e2, e⟩ := Option.bind_eq_some_iff.mp e
    cases y with
    | int k =>
      obtain ⟨j, e3, e⟩ := Option.bind_eq_some_iff.mp e
      split at e
      · rename_i c
        cases e
        refine o1 β P σ H G s _ s1 R e1 _ fun w H1 G1 x1 R1 i1 => ?_
        refine o2 β P σ H1 G1 s1 _ s2 R1 e2 _ fun z H2 G2 x2 R2 i2 => ?_
        rw [is_bag.mp i1, is_int.mp i2]
        obtain ⟨vs, h1, h2, h3⟩ := R2.bag
        refine ⟨β, vs, k, j, rfl, rfl, h1, by rw [h3.len]; exact e3, ?_⟩
        exact q σ _ G2 (x1.trans x2) (R2.setBag (h3.set j (IsD.mono (x1.trans x2) _ _ h))) (fun _ _ => rfl) rfl
      · cases e
    | _ => cases e
  | _ => cases e
omit [Me] in
/-- bag[i] read -/
def mBagIx (fo fi : DM Dt) : DM Dt := fun s => (fo s).bind fun p => match p.1 with
  | .bag => (fi p.2).bind fun q => match q.1 with
    | .int k => (atI q.2.bag k).bind fun d => some (d, q.2)
    | _ => none
  | _ => none
theorem de_bagIx {a b : Expr} {fo fi : DM Dt} {pos : Pos} (ho : DE X a fo) (hi : DE X b fi) (hs : PlainIx b := by exact fun _ _ => rfl) : DE X (.Subscript a b pos) (mBagIx fo fi) := by
  obtain ⟨t, p1, o1⟩ := ho
  obtain ⟨u, p2, o2⟩ := hi
  refine ⟨_, pe_ix ix_list p1 p2 hs, fun β P σ H G s d s' R e Q q => ?_⟩
  unfold mBagIx at e
  obtain ⟨⟨x, s1⟩, e1, e⟩ := Option.bind_eq_some_iff.mp e
  cases x with
  | bag =>
    obtain ⟨⟨y, s2⟩, e2, e⟩ := Option.bind_eq_some_iff.mp e
    cases y with
    | int k =>
      obtain ⟨j, e3, e⟩ := Option.bind_eq_some_iff.mp e
      cases e
      refine o1 β P σ H G s _ s1 R e1 _ fun w H1 G1 x1 R1 i1 => ?_
      refine o2 β P σ H1 G1 s1 _ s2 R1 e2 _ fun z H2 G2 x2 R2 i2 => ?_
      rw [is_bag.mp i1, is_int.mp i2]
      obtain ⟨vs, h1, h2, h3⟩ := R2.bag
      obtain ⟨v, e4, i4⟩ := ati_ok h3 e3
      exact ⟨β, vs, k, v, rfl, rfl, .inl (.inl h1), e4, q v H2 G2 (x1.trans x2) R2 i4⟩
    | _ => cases e
  | _ => cases e
end
omit [Me] in
inductive Res where
  | nx | bk | ct | rt (d : Dt)
omit [Me] in
abbrev DMs := Sta → Option (Res × Sta)
omit [Me] in
def endOf (K : PySem.W.Frag) (β : Addr) (P G : Hp) (D : Ends) (r : Res) (s' : Sta) : Prop := match r with
  | .nx => ∀ σ' H' G', Ext G G' → Rel K β P σ' H' G' s' → D.nx σ' H'
  | .bk => ∀ σ' H' G', Ext G G' → Rel K β P σ' H' G' s' → D.bk σ' H'
  | .ct => ∀ σ' H' G', Ext G G' → Rel K β P σ' H' G' s' → D.ct σ' H'
  | .rt d => ∀ v σ' H' G', Ext G G' → Rel K β P σ' H' G' s' → IsD K β G' d v → D.rt v H'
theorem endOf.mono {K : PySem.W.Frag} {β : Addr} {P G G1 : Hp} {D : Ends} {r : Res} {s' : Sta} (e : Ext G G1) (h : endOf K β P G D r s') : endOf K β P G1 D r s' := by
  cases r with
  | nx => exact fun σ' H' G' x R => h σ' H' G' (e.trans x) R
  | bk => exact fun σ' H' G' x R => h σ' H' G' (e.trans x) R
  | ct => exact fun σ' H' G' x R => h σ' H' G' (e.trans x) R
  | rt d => exact fun v σ' H' G' x R => h v σ' H' G' (e.trans x) R
omit [Me] in
def TSok (K : PySem.W.Frag) (t : TS) (f : DMs) : Prop := ∀ (β : Addr) (P : Hp) (σ : L2.St) (H G : Hp) (s : Sta) (r : Res) (s' : Sta), Rel K β P σ H G s → f s = some (r, s') → ∀ D : Ends, endOf K β P G D r s' → t D σ H
omit [Me] in
def DS (X : Cx) (st : Stmt) (f : DMs) : Prop := ∃ t, PS X st t ∧ TSok X.K t f
omit [Me] in
def DSs (X : Cx) (st : List Stmt) (f : DMs) : Prop := ∃ t, PSs X st t ∧ TSok X.K t f
omit [Me] in
def kSkip : DMs := fun s => some (.nx, s)
omit [Me] in
def kSeq (f g : DMs) : DMs := fun s => (f s).bind fun p => match p.1 with
  | .nx => g p.2
  | r => some (r, p.2)
omit [Me] in
def kAsg (f : DM Dt) (h : Dt → Sta → Option Sta) : DMs := fun s => (f s).bind fun p => (h p.1 p.2).bind fun s' => some (.nx, s')
omit [Me] in
def kRet (f : DM Dt) : DMs := fun s => (f s).bind fun p => some (.rt p.1, p.2)
omit [Me] in
def kDrop (f : DM Dt) : DMs := fun s => (f s).bind fun p => some (.nx, p.2)
omit [Me] in
def kIf (c : DM Bool) (f g : DMs) : DMs := fun s => (c s).bind fun p => if p.1 = true then f p.2 else g p.2
section
variable {X : Cx}
theorem dss_nil : DSs X [] kSkip := ⟨_, pss_nil, fun β P σ H G s r s' R e D h => by cases e; exact h σ H G (Ext.refl G) R⟩
theorem dss_one {st : Stmt} {f : DMs} (h : DS X st f) : DSs X [st] f := by
  obtain ⟨t, p, o⟩ := h
  exact ⟨_, pss_one p, o⟩
theorem dss_cons {st : Stmt} {rest : List Stmt} {f g : DMs} (h1 : DS X st f) (h2 : DSs X rest g) : DSs X (st :: rest) (kSeq f g) := by
  obtain ⟨t, p, o⟩ := h1
  obtain ⟨u, p2, o2⟩ := h2
  refine ⟨_, pss_cons p p2, fun β P σ H G s r s' R e D h => ?_⟩
  unfold kSeq at e
  obtain ⟨⟨x, s1⟩, e1, e⟩ := Option.bind_eq_some_iff.mp e
  cases x with
  | nx =>
    refine o β P σ H G s .nx s1 R e1 _ ?_
    exact fun σ1 H1 G1 x1 R1 => o2 β P σ1 H1 G1 s1 r s' R1 e D (h.mono x1)
  | bk => cases e; exact o β P σ H G s .bk s1 R e1 _ h
  | ct => cases e; exact o β P σ H G s .ct s1 R e1 _ h
  | rt d => cases e; exact o β P σ H G s (.rt d) s1 R e1 _ h
theorem ds_asg {tg e : Expr} {f : DM Dt} {is : List Nat} {h : Dt → Sta → Option Sta} {pos : Pos} (he : DE X e f) (hg : DG X tg is h) (hs : swapsWithSole [tg] e pos.line X.env = pure false := by rfl) (hw : swappedStores [tg] e X.env = pure none := by rfl)
    (h1 : (assignEach [tg] X.env).map (·.2) = [assign tg X.env] := by rfl) : DS X (.Assign [tg] e pos) (kAsg f h) := by
  obtain ⟨t, p, o⟩ := he
  obtain ⟨g, p2, o2⟩ := hg
  refine ⟨_, ps_asg p p2 hs hw h1, fun β P σ H G s r s' R e D k => ?_⟩
  unfold kAsg at e
  obtain ⟨⟨x, s1⟩, e1, e⟩ := Option.bind_eq_some_iff.mp e
  obtain ⟨s2, e2, e⟩ := Option.bind_eq_some_iff.mp e
  cases e
  refine o β P σ H G s x s1 R e1 _ fun v H1 G1 x1 R1 i1 => ?_
  exact o2 β P σ H1 G1 s1 x v s' R1 i1 e2 _ fun σ2 H2 G2 x2 R2 _ _ => k σ2 H2 G2 (x1.trans x2) R2
theorem ds_set {i : Nat} {x : Str} {e : Expr} {f : DM Dt} {pos' pos : Pos} (hN : X.N.Nodup) (hi : X.N[i]? = some x) (hx : Loc X.env.scope x) (he : DE X e f) (hs : swapsWith e (some (.Name x pos')) pos.line X.env = pure false := by rfl) (hf : X.fn x = true ∨ X.env.scope.names.lookup x = some .local := by first | exact .inl rfl | exact .inr rfl | assumption) :
    DS X (.Assign [.Name x pos'] e pos) (kAsg f (hName i)) := by
  obtain ⟨t, p, o⟩ := he
  refine ⟨_, ps_set hN hi hx p hs hf, fun β P σ H G s r s' R e D k => ?_⟩
  unfold kAsg at e
  obtain ⟨⟨x, s1⟩, e1, e⟩ := Option.bind_eq_some_iff.mp e
  obtain ⟨s2, e2, e⟩ := Option.bind_eq_some_iff.mp e
  cases e2
  cases e
  refine o β P σ H G s x s1 R e1 _ fun v H1 G1 x1 R1 i1 => ?_
  exact k _ H1 G1 x1 (R1.set i1)
theorem ds_ret {e : Expr} {f : DM Dt} {pos : Pos} (he : DE X e f) : DS X (.Return (some e) pos) (kRet f) := by
  obtain ⟨t, p, o⟩ := he
  refine ⟨_, ps_ret p, fun β P σ H G s r s' R e D k => ?_⟩
  unfold kRet at e
  obtain ⟨⟨x, s1⟩, e1, e⟩ := Option.bind_eq_some_iff.mp e
  cases e
  exact o β P σ H G s x s1 R e1 _ fun v H1 G1 x1 R1 i1 => k v σ H1 G1 x1 R1 i1
theorem ds_expr {e : Expr} {f : DM Dt} {pos : Pos} (he : DE X e f) (hs : swapsWith e none pos.line X.env = pure false := by rfl) : DS X (.Expr e pos) (kDrop f) := by
  obtain ⟨t, p, o⟩ := he
  refine ⟨_, ps_expr p hs, fun β P σ H G s r s' R e D k => ?_⟩
  unfold kDrop at e
  obtain ⟨⟨x, s1⟩, e1, e⟩ := Option.bind_eq_some_iff.mp e
  cases e
  exact o β P σ H G s x s1 R e1 _ fun v H1 G1 x1 R1 i1 => k σ H1 G1 x1 R1
theorem ds_if {c : Expr} {a b : List Stmt} {fc : DM Bool} {f g : DMs} {pos : Pos} (hc : DT X c fc) (ha : DSs X a f) (hb : DSs X b g) : DS X (.If c a b pos) (kIf fc f g) := by
  obtain ⟨t, p, o⟩ := hc
  obtain ⟨t2, p2, o2⟩ := ha
  obtain ⟨t3, p3, o3⟩ := hb
  refine ⟨_, ps_if p p2 p3, fun β P σ H G s r s' R e D k => ?_⟩
  unfold kIf at e
  obtain ⟨⟨x, s1⟩, e1, e⟩ := Option.bind_eq_some_iff.mp e
  refine o β P σ H G s x s1 R e1 _ fun H1 G1 x1 R1 => ?_
  cases x with
  | true => rw [if_pos rfl] at e ⊢; exact o2 β P σ H1 G1 s1 r s' R1 e D (k.mono x1)
  | false => rw [if_neg Bool.false_ne_true] at e ⊢; exact o3 β P σ H1 G1 s1 r s' R1 e D (k.mono x1)
theorem ds_never {st : Stmt} : DS X st fun _ => none := ⟨_, ps_never, fun β P σ H G s r s' R e D k => by cases e⟩
end
omit [Me] in
def fnD (n : Nat) (f : DMs) : FD := fun ds bg => (f ⟨ds.map (fun d => some (.dat d)) ++ List.replicate (n - ds.length) none, bg⟩).bind fun p => match p.1 with
  | .rt d => some (d, p.2.bag)
  | .nx => some (.non, p.2.bag)
  | _ => none
theorem start_get {ds : List Dt} {n i : Nat} {x : Slo} (h : (ds.map (fun d => some (Slo.dat d)) ++ List.replicate (n - ds.length) none)[i]? = some (some x)) : ∃ d, ds[i]? = some d ∧ x = .dat d := by
  rw [List.getElem?_append] at h
  split at h
  · rw [List.getElem?_map] at h
    cases e : ds[i]? with
    | none => rw [e] at h; cases h
    | some d => rw [e] at h; cases h; exact ⟨d, rfl, rfl⟩
  · rw [List.getElem?_replicate] at h
    split at h <;> cases h
theorem rel_start {K : PySem.W.Frag} {β : Addr} {P H G : Hp} {N : List Str} {ds bg : List Dt} {vs : List V} (i : IsL K β G ds vs) (R : Rel K β P [] H G ⟨[], bg⟩) :
    Rel K β P (L2.start N vs) H G ⟨ds.map (fun d => some (.dat d)) ++ List.replicate (N.length - ds.length) none, bg⟩ where
  len := by unfold L2.start; simp [i.len]
  gh := R.gh
  pr := R.pr
  pb := R.pb
  bag := R.bag
  dat := fun j d e => by
    obtain ⟨d', e1, e2⟩ := start_get e
    cases e2
    obtain ⟨v, h1, h2⟩ := i.get e1
    refine ⟨v, ?_, h2⟩
    unfold L2.start
    have hl : j < vs.length := (List.getElem?_eq_some_iff.mp h1).1
    rw [List.getElem?_append_left (by simpa using hl), List.getElem?_map, h1]
    rfl
  own := fun j l kk e => by
    obtain ⟨d', e1, e2⟩ := start_get e
    cases e2
  dj := fun j _ l _ kl km p e => by
    obtain ⟨d', e1, e2⟩ := start_get e
    cases e2
  obj := fun j c ks l e => by
    obtain ⟨d', e1, e2⟩ := start_get e
    cases e2
  oj := fun j _ c ks l _ _ _ e => by
    obtain ⟨d', e1, e2⟩ := start_get e
    cases e2
  fns := fun j l q e => by
    obtain ⟨d', e1, e2⟩ := start_get e
    cases e2
  tabs := R.tabs
  pt := R.pt
  nt := R.nt
theorem Rel.leave {K : PySem.W.Frag} {β : Addr} {P : Hp} {σ : L2.St} {H G : Hp} {s : Sta} (R : Rel K β P σ H G s) : Rel K β P [] H G ⟨[], s.bag⟩ where
  len := rfl
  gh := R.gh
  pr := R.pr
  pb := R.pb
  bag := R.bag
  dat := fun i d e => by simp at e
  own := fun i d kk e => by simp at e
  dj := fun i j l m kl km p e => by simp at e
  obj := fun i c ks l e => by simp at e
  oj := fun i j c ks l c' ks' l' e => by simp at e
  fns := fun i l q e => by simp at e
  tabs := R.tabs
  pt := R.pt
  nt := R.nt
section
variable {P : Program} {w : World} {K : PySem.W.Frag} {mg : Str → Option Value} {base : Heap}
theorem fn_ok {x qual : Str} {st : Stmt} {f : Addr} {fd : FuncData} {N ps : List Str} {k n : Nat} {g : DMs} (F : Fun K x qual st f fd) (S : FnScope N ps (defScope st)) (hn : ps.length = n := by rfl)
    (hb : ∀ (cdv : Value) (A : Around) (outer : List Env) (s : Shared) (H : Hp) (E : XK), Room k (A.deeper (envOfC qual (defScope st) s.heap.objs.size f cdv)) →
      DSs (cxOf CX0 P w K mg base N qual (defScope st) f cdv A outer s H E).nox (defBody st) g) : FnOk P w K mg base CX0 (k + 1) f fd ps (spD K n (fnD N.length g)) := by
  refine F.ok S (fun vs H Q E h => ?_) (fun cdv A outer s H vs Q E hr h => ?_)
  · obtain ⟨β, P, G, ds, bg, r, bg', h, _⟩ := h
    rw [hn]; exact h
  · obtain ⟨β, PP, G, ds, bg, r, bg', hl, i, R, e, q⟩ := h
    obtain ⟨t, p, o⟩ := hb cdv A outer s H E hr
    refine ⟨t, p, ?_⟩
    unfold fnD at e
    obtain ⟨⟨res, s'⟩, e1, e⟩ := Option.bind_eq_some_iff.mp e
    refine o β PP (L2.start N vs) H G _ res s' (rel_start i R) e1 _ ?_
    cases res with
    | nx =>
      cases e
      exact fun σ' H' G' x R' => q .non H' G' x R'.leave (is_non.mpr rfl)
    | rt d =>
      cases e
      exact fun v σ' H' G' x R' iv => q v H' G' x R'.leave iv
    | bk => cases e
    | ct => cases e
/-- a promise that nobody can call -/
theorem fn_none {f : Addr} {fd : FuncData} {ps : List Str} {k n : Nat} (hn : ps.length = n := by rfl) : FnOk P w K mg base CX0 k f fd ps (spD K n fun _ _ => none) :=
  ⟨fun vs H Q E h => by obtain ⟨β, P, G, ds, bg, r, bg', h, _⟩ := h; rw [hn]; exact h, fun A outer s H args us vs Q E _ _ _ _ h => by
    obtain ⟨β, P, G, ds, bg, r, bg', _, _, _, e, _⟩ := h
    cases e⟩
end
end DL
namespace DL
open PySem PySem.Spec PyProof.Rows L2
variable [Tabs] [Me]
omit [Me] in
def tOf (K : PySem.W.Frag) (f : DM Dt) : TE := fun σ H Q => ∃ (β : Addr) (P G : Hp) (s : Sta) (d : Dt) (s' : Sta), Rel K β P σ H G s ∧ f s = some (d, s') ∧ ∀ v H' G', Ext G G' → Rel K β P σ H' G' s' → IsD K β G' d v → Q v H'
omit [Me] in
def ttOf (K : PySem.W.Frag) (f : DM Bool) : TT := fun σ H Q => ∃ (β : Addr) (P G : Hp) (s : Sta) (d : Bool) (s' : Sta), Rel K β P σ H G s ∧ f s = some (d, s') ∧ ∀ H' G', Ext G G' → Rel K β P σ H' G' s' → Q d H'
omit [Me] in
def TGok (K : PySem.W.Frag) (g : TG) (is : List Nat) (h : Dt → Sta → Option Sta) : Prop := ∀ (β : Addr) (P : Hp) (σ : L2.St) (H G : Hp) (s : Sta) (d : Dt) (v : V) (s' : Sta), Rel K β P σ H G s → IsD K β G d v → h d s = some s' →
  ∀ Q : L2.St → Hp → Prop, (∀ σ' H' G', Ext G G' → Rel K β P σ' H' G' s' → (∀ j, j ∉ is → σ'[j]? = σ[j]?) → σ'.length = σ.length → Q σ' H') → g v σ H Q
omit [Me] in
def gOf (K : PySem.W.Frag) (is : List Nat) (h : Dt → Sta → Option Sta) : TG := fun v σ H Q => ∃ (β : Addr) (P G : Hp) (s : Sta) (d : Dt) (s' : Sta), Rel K β P σ H G s ∧ IsD K β G d v ∧ h d s = some s' ∧
  ∀ σ' H' G', Ext G G' → Rel K β P σ' H' G' s' → (∀ j, j ∉ is → σ'[j]? = σ[j]?) → σ'.length = σ.length → Q σ' H'
theorem tOf_ok {K : PySem.W.Frag} {f : DM Dt} : TEok K (tOf K f) f := fun β P σ H G s d s' R e Q q => ⟨β, P, G, s, d, s', R, e, q⟩
theorem ttOf_ok {K : PySem.W.Frag} {f : DM Bool} : TTok K (ttOf K f) f := fun β P σ H G s d s' R e Q q => ⟨β, P, G, s, d, s', R, e, q⟩
theorem gOf_ok {K : PySem.W.Frag} {is : List Nat} {h : Dt → Sta → Option Sta} : TGok K (gOf K is h) is h := fun β P σ H G s d v s' R i e Q q => ⟨β, P, G, s, d, s', R, i, e, q⟩
section
variable {X : Cx}
theorem DE.pe {e : Expr} {f : DM Dt} (h : DE X e f) : PE X e (tOf X.K f) := by
  obtain ⟨t, p, o⟩ := h
  refine ⟨fun pins s σ H Q I k => ?_⟩
  obtain ⟨β, P, G, a, d, a', R, e1, q⟩ := k
  exact p.run pins s σ H Q I (o β P σ H G a d a' R e1 Q q)
theorem DT.pt {e : Expr} {f : DM Bool} (h : DT X e f) : PT X e (ttOf X.K f) := by
  obtain ⟨t, p, o⟩ := h
  refine ⟨fun pins s σ H Q I k => ?_⟩
  obtain ⟨β, P, G, a, d, a', R, e1, q⟩ := k
  exact p.run pins s σ H Q I (o β P σ H G a d a' R e1 Q q)
theorem DG.pg {e : Expr} {is : List Nat} {h : Dt → Sta → Option Sta} (k : DG X e is h) : PG X e (gOf X.K is h) := by
  obtain ⟨g, p, o⟩ := k
  refine ⟨fun pins s σ H v u Q I r k => ?_⟩
  obtain ⟨β, P, G, a, d, a', R, i, e1, q⟩ := k
  exact p.run pins s σ H v u Q I r (o β P σ H G a d _ a' R i e1 Q q)
end
omit [Me] in
def TIok (K : PySem.W.Frag) (wi : TI) (f : DM (List Dt)) : Prop := ∀ (β : Addr) (P : Hp) (σ : L2.St) (H G : Hp) (s : Sta) (l : List Dt) (s' : Sta), Rel K β P σ H G s → f s = some (l, s') →
  ∀ R : It → Hp → Prop, (∀ (J : It) (H' G' : Hp) (Gd : Hp → Prop) (Y : Nat → Hp → V → Hp → Prop), Ext G G' → Rel K β P σ H' G' s' → Walk J l.length Gd Y → (∀ H1 G1, Ext G' G1 → Ext G1 H1 → Gd H1) →
    (∀ (i : Nat) (d : Dt) (H1 : Hp) (x : V) (H2 P1 : Hp) (σ1 : L2.St) (G1 : Hp) (s1 : Sta), l[i]? = some d → Ext G' G1 → Rel K β P1 σ1 H1 G1 s1 → Y i H1 x H2 → ∃ G2, Ext G1 G2 ∧ Rel K β P1 σ1 H2 G2 s1 ∧ IsD K β G2 d x) → R J H') → wi σ H R
omit [Me] in
def DI (X : Cx) (tg iter : Expr) (f : DM (List Dt)) : Prop := ∃ wi, PI X tg iter wi ∧ TIok X.K wi f
omit [Me] in
def wLst (f : DM Dt) : DM (List Dt) := fun s => (f s).bind fun p => match p.1 with
  | .lst l => some (l, p.2)
  | _ => none
omit [Me] in
def wTup (f : DM Dt) : DM (List Dt) := fun s => (f s).bind fun p => match p.1 with
  | .tup l => some (l, p.2)
  | _ => none
omit [Me] in
def wStr (f : DM Dt) : DM (List Dt) := fun s => (f s).bind fun p => match p.1 with
  | .str z => some (z.cps.toList.map fun c => .str ⟨#[c]⟩, p.2)
  | _ => none
omit [Me] in
def bRng (j : Int) : Bool := decide (-(2 ^ 62) ≤ j) && decide (j < 2 ^ 62)
omit [Me] in
def rngD (lo : Int) (n : Nat) : List Dt := (List.range n).map fun i => .int (lo + (i : Nat))
omit [Me] in
def wRng1 (f : DM (List Dt)) : DM (List Dt) := fun s => (f s).bind fun p => match p.1 with
  | [.int j] => if bRng j = true then some (rngD 0 j.toNat, p.2) else none
  | _ => none
omit [Me] in
def zipD : List Dt → List Dt → List Dt
  | x :: xs, y :: ys => .tup [x, y] :: zipD xs ys
  | _, _ => []
omit [Me] in
def wZip (f : DM (List Dt)) : DM (List Dt) := fun s => (f s).bind fun p => match p.1 with
  | [.lst a, .lst b] => some (zipD a b, p.2)
  | [.tup a, .tup b] => some (zipD a b, p.2)
  | _ => none
theorem zip_len : ∀ (a b : List Dt), (zipD a b).length = min a.length b.length
  | [], [] => rfl
  | [], _ :: _ => rfl
  | _ :: _, [] => rfl
  | x :: a, y :: b => by simp only [zipD, List.length_cons, zip_len a b]; omega
theorem zip_get : ∀ (a b : List Dt) (i : Nat) (d : Dt), (zipD a b)[i]? = some d → ∃ x y, a[i]? = some x ∧ b[i]? = some y ∧ d = .tup [x, y]
  | [], [], i, d, h => by simp [zipD] at h
  | [], _ :: _, i, d, h => by simp [zipD] at h
  | _ :: _, [], i, d, h => by simp [zipD] at h
  | x :: a, y :: b, 0, d, h => by simp [zipD] at h; exact ⟨x, y, rfl, rfl, h.symm⟩
  | x :: a, y :: b, i + 1, d, h => by
    simp [zipD] at h
    obtain ⟨u, v, h1, h2, h3⟩ := zip_get a b i d h
    exact ⟨u, v, by simpa using h1, by simpa using h2, h3⟩
theorem same_turn {K : PySem.W.Frag} {β : Addr} {P1 : Hp} {σ1 : L2.St} {H1 G1 : Hp} {s1 : Sta} (R : Rel K β P1 σ1 H1 G1 s1) {d : Dt} {x : V} (h : IsD K β G1 d x) : ∃ G2, Ext G1 G2 ∧ Rel K β P1 σ1 H1 G2 s1 ∧ IsD K β G2 d x := ⟨G1, Ext.refl G1, R, h⟩
section
variable {X : Cx} {tg e : Expr} {f : DM Dt}
theorem di_list (h : DE X e f) : DI X tg e (wLst f) := by
  obtain ⟨t, p, o⟩ := h
  refine ⟨_, pi_list p, fun β P σ H G s l s' R e Q q => ?_⟩
  unfold wLst at e
  obtain ⟨⟨x, s1⟩, e1, e⟩ := Option.bind_eq_some_iff.mp e
  cases x with
  | lst m =>
    cases e
    refine o β P σ H G s _ s1 R e1 _ fun v H1 G1 x1 R1 i1 => ?_
    obtain ⟨a, vs, rfl, h1, h2⟩ := is_lst.mp i1
    refine ⟨a, rfl, ⟨vs, .inl (.inl (R1.gh _ _ h1))⟩, q _ H1 G1 (fun H => SqL X.K H a vs) (YAt vs) x1 R1 (by rw [← h2.len]; exact walk_list) (fun H2 G2 x2 g => .inl (.inl (g _ _ (x2 _ _ h1)))) ?_⟩
    rintro i d H2 x H3 P1 σ1 G2 s2 hd x2 R2 ⟨rfl, hx⟩
    obtain ⟨v, e4, i4⟩ := h2.get hd
    rw [hx] at e4
    cases e4
    exact same_turn R2 (IsD.mono x2 _ _ i4)
  | _ => cases e
theorem di_tup (h : DE X e f) : DI X tg e (wTup f) := by
  obtain ⟨t, p, o⟩ := h
  refine ⟨_, pi_tup p, fun β P σ H G s l s' R e Q q => ?_⟩
  unfold wTup at e
  obtain ⟨⟨x, s1⟩, e1, e⟩ := Option.bind_eq_some_iff.mp e
  cases x with
  | tup m =>
    cases e
    refine o β P σ H G s _ s1 R e1 _ fun v H1 G1 x1 R1 i1 => ?_
    obtain ⟨a, vs, rfl, h1, h2⟩ := is_tup.mp i1
    refine ⟨a, rfl, ⟨vs, ext_t R1.gh h1⟩, q _ H1 G1 (fun H => SqT X.K H a vs) (YAt vs) x1 R1 (by rw [← h2.len]; exact walk_tup) (fun H2 G2 x2 g => ext_t (x2.trans g) h1) ?_⟩
    rintro i d H2 x H3 P1 σ1 G2 s2 hd x2 R2 ⟨rfl, hx⟩
    obtain ⟨v, e4, i4⟩ := h2.get hd
    rw [hx] at e4
    cases e4
    exact same_turn R2 (IsD.mono x2 _ _ i4)
  | _ => cases e
theorem di_str (h : DE X e f) : DI X tg e (wStr f) := by
  obtain ⟨t, p, o⟩ := h
  refine ⟨_, pi_str p, fun β P σ H G s l s' R e Q q => ?_⟩
  unfold wStr at e
  obtain ⟨⟨x, s1⟩, e1, e⟩ := Option.bind_eq_some_iff.mp e
  cases x with
  | str z =>
    cases e
    refine o β P σ H G s _ s1 R e1 _ fun v H1 G1 x1 R1 i1 => ?_
    refine ⟨z, is_str.mp i1, q _ H1 G1 (fun _ => True) _ x1 R1 (by rw [List.length_map, Array.length_toList]; exact walk_str) (fun _ _ _ _ => trivial) ?_⟩
    rintro i d H2 x H3 P1 σ1 G2 s2 hd x2 R2 ⟨rfl, c, hc, rfl⟩
    rw [List.getElem?_map, Array.getElem?_toList, hc] at hd
    cases hd
    exact same_turn R2 (is_str.mpr rfl)
  | _ => cases e
theorem bRng_ok {j : Int} (h : bRng j = true) : -(2 ^ 62) ≤ j ∧ j < 2 ^ 62 := by
  unfold bRng at h
  rw [Bool.and_eq_true] at h
  exact ⟨of_decide_eq_true h.1, of_decide_eq_true h.2⟩
theorem rng_turn {K : PySem.W.Frag} {β : Addr} {lo : Int} {n : Nat} (i : Nat) (d : Dt) (H1 : Hp) (x : V) (H2 P1 : Hp) (σ1 : L2.St) (G1 : Hp) (s1 : Sta) (hd : (rngD lo n)[i]? = some d) (R : Rel K β P1 σ1 H1 G1 s1) (y : YFn (fun i => V.int (lo + (i : Nat))) i H1 x H2) :
    ∃ G2, Ext G1 G2 ∧ Rel K β P1 σ1 H2 G2 s1 ∧ IsD K β G2 d x := by
  obtain ⟨rfl, rfl⟩ := y
  unfold rngD at hd
  rw [List.getElem?_map] at hd
  by_cases c : i < n
  · rw [List.getElem?_range c] at hd
    cases hd
    exact same_turn R (is_int.mpr rfl)
  · rw [List.getElem?_eq_none (by simpa using c)] at hd
    cases hd
theorem di_rng1 {a : Expr} {f : DM (List Dt)} {p pos : Pos} (hg : Gl X "range") (hm : X.mg "range" = none) (ha : DA X [a] f) (hs : starEach [a] X.env = [(false, eval a X.env)] := by rfl) : DI X tg (.Call (.Name "range" p) [a] [] pos) (wRng1 f) := by
  obtain ⟨t, p, o⟩ := ha
  refine ⟨_, pi_range1 hg hm p hs, fun β P σ H G s l s' R e Q q => ?_⟩
  unfold wRng1 at e
  obtain ⟨⟨x, s1⟩, e1, e⟩ := Option.bind_eq_some_iff.mp e
  split at e
  · rename_i j hx
    rw [show x = _ from hx] at e1
    split at e
    · rename_i c
      cases e
      refine o β P σ H G s _ s1 R e1 _ fun vs H1 G1 x1 R1 i1 => ?_
      obtain ⟨v, rfl, h⟩ := one_of i1
      rw [is_int.mp h]
      exact ⟨j, rfl, (bRng_ok c).1, (bRng_ok c).2, q _ H1 G1 (fun _ => True) _ x1 R1 (by rw [show (rngD 0 j.toNat).length = j.toNat by simp [rngD]]; exact walk_range) (fun _ _ _ _ => trivial) fun i d H2 x H3 P1 σ1 G2 s2 hd x2 R2 y => rng_turn i d H2 x H3 P1 σ1 G2 s2 hd R2 y⟩
    · cases e
  · cases e
theorem pair_turn {K : PySem.W.Frag} {β : Addr} {a b : List Dt} {xs ys : List V} {G' : Hp} (h1 : IsL K β G' a xs) (h2 : IsL K β G' b ys) (i : Nat) (d : Dt) (H1 : Hp) (x : V) (H2 P1 : Hp) (σ1 : L2.St) (G1 : Hp) (s1 : Sta) (hd : (zipD a b)[i]? = some d) (e : Ext G' G1) (R : Rel K β P1 σ1 H1 G1 s1)
    (y : YPair (fun i => xs[i]?) (fun i => ys[i]?) i H1 x H2) : ∃ G2, Ext G1 G2 ∧ Rel K β P1 σ1 H2 G2 s1 ∧ IsD K β G2 d x := by
  obtain ⟨T, u, v, rfl, hT, rfl, hu, hv⟩ := y
  obtain ⟨da, db, e1, e2, rfl⟩ := zip_get a b i d hd
  obtain ⟨u', e3, i3⟩ := h1.get e1
  obtain ⟨v', e4, i4⟩ := h2.get e2
  dsimp only at hu hv
  rw [hu] at e3; cases e3
  rw [hv] at e4; cases e4
  have xx := Ext.new (o := .tup [u, v]) (R.free hT)
  exact ⟨_, xx, R.new hT, is_tup.mpr ⟨T, _, rfl, .inl (.inl upd_same), isl_cons.mpr ⟨_, _, rfl, IsD.mono (e.trans xx) _ _ i3, isl_cons.mpr ⟨_, _, rfl, IsD.mono (e.trans xx) _ _ i4, isl_nil.mpr rfl⟩⟩⟩⟩
theorem walk_zipT {K : PySem.W.Frag} {a b : Addr} {xs ys : List V} {n : Nat} (hn : n = min xs.length ys.length) : Walk (RZ.ItzT K a b) n (fun H => SqT K H a xs ∧ SqT K H b ys) (YPair (fun i => xs[i]?) (fun i => ys[i]?)) := by
  subst hn
  refine ⟨fun i _ hi q => ?_, fun _ q => ⟨xs, ys, q.1, q.2, by omega⟩, fun i H v H' _ q y => ?_⟩
  · have h1 : i < xs.length := by omega
    have h2 : i < ys.length := by omega
    exact ⟨xs, ys, xs[i], ys[i], q.1, q.2, by simp [h1], by simp [h2]⟩
  · obtain ⟨T, x, z, h1, h2, h3, h4, h5⟩ := y
    exact ⟨T, x, z, h1, h2, h3, h4 xs q.1, h5 ys q.2⟩
theorem di_zip {e e2 : Expr} {f : DM (List Dt)} {p pos tpos : Pos} {elts : List Expr} {kk : Nat} (hg : Gl X "zip") (hm : X.mg "zip" = none) (ha : DA X [e, e2] f)
    (hs : starEach [e, e2] X.env = (false, eval e X.env) :: starEach [e2] X.env := by rfl) (hpl : (backTo pos (starEach [e2] X.env)).any (·.1) = false := by rfl) :
    DI X (.Tuple elts kk tpos) (.Call (.Name "zip" p) [e, e2] [] pos) (wZip f) := by
  obtain ⟨t, p, o⟩ := ha
  refine ⟨_, RZ.pi_zipA hg hm p hs hpl, fun β P σ H G s l s' R e Q q => ?_⟩
  unfold wZip at e
  obtain ⟨⟨x, s1⟩, e1, e⟩ := Option.bind_eq_some_iff.mp e
  split at e
  · rename_i a b hx
    rw [show x = _ from hx] at e1
    cases e
    refine o β P σ H G s _ s1 R e1 _ fun vs H1 G1 x1 R1 i1 => ?_
    obtain ⟨v, r, rfl, h, h'⟩ := isl_cons.mp i1
    obtain ⟨v', rfl, h2'⟩ := one_of h'
    obtain ⟨pa, xs, rfl, g1, g2⟩ := is_lst.mp h
    obtain ⟨pb, ys, rfl, g3, g4⟩ := is_lst.mp h2'
    exact ⟨pa, pb, xs, ys, rfl, .inl ⟨.inl (.inl (R1.gh _ _ g1)), .inl (.inl (R1.gh _ _ g3)), q _ H1 G1 _ _ x1 R1 (walk_zip (xs := xs) (ys := ys) (by rw [zip_len, g2.len, g4.len]))
      (fun H2 G2 x2 g => ⟨.inl (.inl (g _ _ (x2 _ _ g1))), .inl (.inl (g _ _ (x2 _ _ g3)))⟩) fun i d H2 x H3 P1 σ1 G2 s2 hd x2 R2 y => pair_turn g2 g4 i d H2 x H3 P1 σ1 G2 s2 hd x2 R2 y⟩⟩
  · rename_i a b hx
    rw [show x = _ from hx] at e1
    cases e
    refine o β P σ H G s _ s1 R e1 _ fun vs H1 G1 x1 R1 i1 => ?_
    obtain ⟨v, r, rfl, h, h'⟩ := isl_cons.mp i1
    obtain ⟨v', rfl, h2'⟩ := one_of h'
    obtain ⟨pa, xs, rfl, g1, g2⟩ := is_tup.mp h
    obtain ⟨pb, ys, rfl, g3, g4⟩ := is_tup.mp h2'
    exact ⟨pa, pb, xs, ys, rfl, .inr ⟨ext_t R1.gh g1, ext_t R1.gh g3, q _ H1 G1 _ _ x1 R1 (walk_zipT (xs := xs) (ys := ys) (by rw [zip_len, g2.len, g4.len]))
      (fun H2 G2 x2 g => ⟨ext_t (x2.trans g) g1, ext_t (x2.trans g) g3⟩) fun i d H2 x H3 P1 σ1 G2 s2 hd x2 R2 y => pair_turn g2 g4 i d H2 x H3 P1 σ1 G2 s2 hd x2 R2 y⟩⟩
  · cases e
end
omit [Me] in
def loopD (h : Dt → Sta → Option Sta) (b : DMs) : List Dt → DMs
  | [], s => some (.nx, s)
  | d :: r, s => (h d s).bind fun s1 => (b s1).bind fun p => match p.1 with
    | .nx => loopD h b r p.2
    | .ct => loopD h b r p.2
    | .bk => some (.nx, p.2)
    | .rt v => some (.rt v, p.2)
omit [Me] in
def kFor (f : DM (List Dt)) (h : Dt → Sta → Option Sta) (b : DMs) : DMs := fun s => (f s).bind fun p => loopD h b p.1 p.2
section
variable {X : Cx}
theorem ds_for {tg iter : Expr} {body : List Stmt} {f : DM (List Dt)} {is : List Nat} {h : Dt → Sta → Option Sta} {b : DMs} {pos : Pos} (hp : PassesOwn (model X.prog X.w) X.A X.env X.xe) (hc : X.calm = true) (hi : DI X tg iter f) (hg : DG X tg is h) (hb : DSs X body b)
    (hs : ∀ x, foldedSetIterable iter X.env x = pure x := by intro _; rfl) : DS X (.For tg iter body [] pos) (kFor f h b) := by
  obtain ⟨wi, p1, o1⟩ := hi
  obtain ⟨g, p2, o2⟩ := hg
  obtain ⟨tb, p3, o3⟩ := hb
  refine ⟨_, ps_for hp hc p1 p2 p3 hs, fun β P σ H G s r s' R e D k => ?_⟩
  unfold kFor at e
  obtain ⟨⟨l, s1⟩, e1, e⟩ := Option.bind_eq_some_iff.mp e
  refine o1 β P σ H G s l s1 R e1 _ fun J H1 G1 Gd Y x1 R1 wk hG hY => ?_
  refine for_it wk (fun i σ2 H2 => ∃ G2 s2, Ext G1 G2 ∧ Rel X.K β P σ2 H2 G2 s2 ∧ loopD h b (l.drop i) s2 = some (r, s')) ⟨G1, s1, Ext.refl G1, R1, e⟩ (fun i σ2 H2 hi ⟨G2, s2, x2, R2, _⟩ => hG H2 G2 x2 R2.gh) ?_ ?_
  · rintro i x σ2 H2 H3 hi ⟨G2, s2, x2, R2, e2⟩ y
    have hd : l[i]? = some l[i] := List.getElem?_eq_getElem hi
    obtain ⟨G3, x3, R3, i3⟩ := hY i l[i] H2 x H3 P σ2 G2 s2 hd x2 R2 y
    rw [List.drop_eq_getElem_cons hi] at e2
    unfold loopD at e2
    obtain ⟨s3, e3, e2⟩ := Option.bind_eq_some_iff.mp e2
    obtain ⟨⟨res, s4⟩, e4, e2⟩ := Option.bind_eq_some_iff.mp e2
    refine o2 β P σ2 H3 G3 s2 l[i] x s3 R3 i3 e3 _ fun σ4 H4 G4 x4 R4 _ _ => ?_
    refine o3 β P σ4 H4 G4 s3 res s4 R4 e4 _ ?_
    cases res with
    | nx => exact fun σ5 H5 G5 x5 R5 => ⟨G5, s4, ((x2.trans x3).trans x4).trans x5, R5, e2⟩
    | ct => exact fun σ5 H5 G5 x5 R5 => ⟨G5, s4, ((x2.trans x3).trans x4).trans x5, R5, e2⟩
    | bk => cases e2; exact fun σ5 H5 G5 x5 R5 => k σ5 H5 G5 ((((x1.trans x2).trans x3).trans x4).trans x5) R5
    | rt d => cases e2; exact fun v σ5 H5 G5 x5 R5 i5 => k v σ5 H5 G5 ((((x1.trans x2).trans x3).trans x4).trans x5) R5 i5
  · rintro σ2 H2 ⟨G2, s2, x2, R2, e2⟩
    rw [List.drop_length] at e2
    cases e2
    exact k σ2 H2 G2 (x1.trans x2) R2
end
omit [Me] in
def datOnly : Option Slo → Option Slo
  | some (.dat d) => some (.dat d)
  | _ => none
omit [Me] in
def wipeS (sl : List (Option Slo)) : List Nat → List (Option Slo)
  | [] => sl
  | v :: vs => (wipeS sl vs).set v none
omit [Me] in
def compD (sl0 : List (Option Slo)) (h : Dt → Sta → Option Sta) (t : DM Bool) (e : DM Dt) : List Dt → List Dt → Option (List Dt × List Dt)
  | [], bg => some ([], bg)
  | d :: r, bg => (h d ⟨sl0, bg⟩).bind fun s1 => (t s1).bind fun p => if p.1 = true then (e p.2).bind fun q => (compD sl0 h t e r q.2.bag).bind fun z => some (q.1 :: z.1, z.2) else compD sl0 h t e r p.2.bag
omit [Me] in
def mComp (is : List Nat) (f : DM (List Dt)) (h : Dt → Sta → Option Sta) (t : DM Bool) (e : DM Dt) : DM Dt := fun s => (f s).bind fun p => if p.1.length ≤ 100000 then
  (compD (wipeS (p.2.sl.map datOnly) is) h t e p.1 p.2.bag).bind fun z => some (.lst z.1, { p.2 with bag := z.2 }) else none
theorem wipe_len : ∀ (vs : List Nat) (σ : L2.St), (wipe σ vs).length = σ.length
  | [], _ => rfl
  | v :: vs, σ => by show ((wipe σ vs).set v none).length = _; rw [List.length_set, wipe_len vs]
theorem wipeS_len : ∀ (vs : List Nat) (σ : List (Option Slo)), (wipeS σ vs).length = σ.length
  | [], _ => rfl
  | v :: vs, σ => by show ((wipeS σ vs).set v none).length = _; rw [List.length_set, wipeS_len vs]
theorem wipe_get : ∀ (vs : List Nat) (σ : L2.St) (j : Nat), (wipe σ vs)[j]? = if j ∈ vs ∧ j < σ.length then some none else σ[j]?
  | [], σ, j => by simp [wipe]
  | v :: vs, σ, j => by
    show ((wipe σ vs).set v none)[j]? = _
    rw [get_set, wipe_get vs, wipe_len]
    by_cases h : v = j
    · subst h
      by_cases q : v < σ.length
      · simp [q]
      · simp [q]
    · have h' : ¬ j = v := fun e => h e.symm
      simp [h, h']
theorem wipeS_get : ∀ (vs : List Nat) (σ : List (Option Slo)) (j : Nat), (wipeS σ vs)[j]? = if j ∈ vs ∧ j < σ.length then some none else σ[j]?
  | [], σ, j => by simp [wipeS]
  | v :: vs, σ, j => by
    show ((wipeS σ vs).set v none)[j]? = _
    rw [get_set, wipeS_get vs, wipeS_len]
    by_cases h : v = j
    · subst h
      by_cases q : v < σ.length
      · simp [q]
      · simp [q]
    · have h' : ¬ j = v := fun e => h e.symm
      simp [h, h']
theorem hid_get {sl : List (Option Slo)} {vs : List Nat} {j : Nat} {x : Slo} (h : (wipeS (sl.map datOnly) vs)[j]? = some (some x)) : j ∉ vs ∧ ∃ d, x = .dat d ∧ sl[j]? = some (some (.dat d)) := by
  rw [wipeS_get] at h
  split at h
  · cases h
  · rename_i c
    rw [List.getElem?_map] at h
    cases e : sl[j]? with
    | none => rw [e] at h; cases h
    | some y =>
      rw [e] at h
      have hl : j < sl.length := (List.getElem?_eq_some_iff.mp e).1
      have hj : j ∉ vs := fun m => c ⟨m, by simpa using hl⟩
      match y, h with
      | some (.dat d), h => cases h; exact ⟨hj, d, rfl, rfl⟩
      | some (.mut none l), h => cases h
      | some (.obj _ _ _), h => cases h
      | none, h => cases h
theorem rel_hide {K : PySem.W.Frag} {β : Addr} {P : Hp} {σ : L2.St} {H G : Hp} {s : Sta} (R : Rel K β P σ H G s) {D : Addr} (hD : H D = none) (vs : List Nat) :
    Rel K β (upd (shut β H G) D (.lst [])) (wipe σ vs) (upd H D (.lst [])) G ⟨wipeS (s.sl.map datOnly) vs, s.bag⟩ where
  len := by rw [wipe_len, wipeS_len, List.length_map]; exact R.len
  gh := fun a o e => by rw [upd_ne (ne_of_none e (R.free hD))]; exact R.gh a o e
  pr := fun p o e => by
    by_cases c : p = D
    · subst c; rw [upd_same] at e ⊢; exact ⟨e, R.free hD⟩
    · rw [upd_ne c] at e ⊢; exact R.callee.pr p o e
  pb := by
    obtain ⟨us, h1, _⟩ := R.bag
    rw [upd_ne (ne_of_none h1 hD)]; exact R.callee.pb
  bag := by
    obtain ⟨us, h1, h2, h3⟩ := R.bag
    exact ⟨us, by rw [upd_ne (ne_of_none h1 hD)]; exact h1, h2, h3⟩
  dat := fun i d e => by
    obtain ⟨hi, d', e1, e2⟩ := hid_get e
    cases e1
    obtain ⟨v, h1, h2⟩ := R.dat i d e2
    refine ⟨v, ?_, h2⟩
    rw [wipe_get, if_neg (fun q => hi q.1)]
    exact h1
  own := fun i l kk e => by
    obtain ⟨hi, d', e1, e2⟩ := hid_get e
    cases e1
  dj := fun i j l m kl km p e => by
    obtain ⟨hi, d', e1, e2⟩ := hid_get e
    cases e1
  obj := fun i c ks l e => by
    obtain ⟨hi, d', e1, e2⟩ := hid_get e
    cases e1
  oj := fun i j c ks l c' ks' l' e => by
    obtain ⟨hi, d', e1, e2⟩ := hid_get e
    cases e1
  fns := fun i l q e => by
    obtain ⟨hi, d', e1, e2⟩ := hid_get e
    cases e1
  tabs := fun q hq => by
    obtain ⟨t, g, n⟩ := R.tabs q hq
    have z := t.ne hD
    exact ⟨t.of (upd_ne z) (Ext.refl G), g, by rw [upd_ne z]; exact shut_tab hq⟩
  pt := fun p o h => by
    by_cases c : p = D
    · subst c; rw [upd_same] at h; cases h; exact nx_lst
    · rw [upd_ne c] at h; exact shut_nx h
  nt := R.nt
theorem rel_acc {K : PySem.W.Frag} {β : Addr} {P : Hp} {σ σ0 : L2.St} {H H0 G G0 P0 : Hp} {s : Sta} {sl0 : List (Option Slo)} {bg0 : List Dt} {D : Addr} {o o' : HO} (R : Rel K β (upd P D o) σ H G s) (R0 : Rel K β P0 σ0 H0 G0 ⟨sl0, bg0⟩) (e : Ext G0 G) (hn : ∀ (i : Nat) (x : Slo), sl0[i]? = some (some x) → ∃ d, x = .dat d) (hx : Nx D o') :
    Rel K β (upd P D o') σ0 (upd H D o') G ⟨sl0, s.bag⟩ where
  len := R0.len
  gh := fun a u h => by
    have q := (R.pr D o upd_same).2
    rw [upd_ne (ne_of_none h q)]; exact R.gh a u h
  pr := fun p u h => by
    by_cases c : p = D
    · subst c; rw [upd_same] at h ⊢; exact ⟨h, (R.pr p o upd_same).2⟩
    · rw [upd_ne c] at h ⊢; exact R.pr p u (by rw [upd_ne c]; exact h)
  pb := by
    have q := R.pb
    by_cases c : β = D
    · subst c; rw [upd_same] at q; cases q
    · rw [upd_ne c] at q ⊢; exact q
  bag := by
    obtain ⟨us, h1, h2, h3⟩ := R.bag
    have c : β ≠ D := fun c => by have q := R.pb; rw [c, upd_same] at q; cases q
    exact ⟨us, by rw [upd_ne c]; exact h1, h2, h3⟩
  dat := fun i d h => by
    obtain ⟨v, h1, h2⟩ := R0.dat i d h
    exact ⟨v, h1, IsD.mono e _ _ h2⟩
  own := fun i l kk h => by
    obtain ⟨d, z⟩ := hn i _ h
    cases z
  dj := fun i j l m kl km p h => by
    obtain ⟨d, z⟩ := hn i _ h
    cases z
  obj := fun i c ks l h => by
    obtain ⟨d, z⟩ := hn i _ h
    cases z
  oj := fun i j c ks l c' ks' l' h => by
    obtain ⟨d, z⟩ := hn i _ h
    cases z
  fns := fun i l q h => by
    obtain ⟨d, z⟩ := hn i _ h
    cases z
  tabs := fun q hq => by
    obtain ⟨t, g, n⟩ := R.tabs q hq
    have z : q.1 ≠ D := fun z => by rw [z, upd_same] at n; cases n
    exact ⟨t.of (upd_ne z) (Ext.refl G), g, by rw [upd_ne z] at n ⊢; exact n⟩
  pt := fun p u h => by
    by_cases c : p = D
    · subst c; rw [upd_same] at h; cases h; exact hx
    · rw [upd_ne c] at h; exact R.pt p u (by rw [upd_ne c]; exact h)
  nt := R.nt
theorem rel_skip {K : PySem.W.Frag} {β : Addr} {P : Hp} {σ σ0 : L2.St} {H H0 G G0 P0 : Hp} {s : Sta} {sl0 : List (Option Slo)} {bg0 : List Dt} (R : Rel K β P σ H G s) (R0 : Rel K β P0 σ0 H0 G0 ⟨sl0, bg0⟩) (e : Ext G0 G) (hn : ∀ (i : Nat) (x : Slo), sl0[i]? = some (some x) → ∃ d, x = .dat d) :
    Rel K β P σ0 H G ⟨sl0, s.bag⟩ where
  len := R0.len
  gh := R.gh
  pr := R.pr
  pb := R.pb
  bag := R.bag
  dat := fun i d h => by
    obtain ⟨v, h1, h2⟩ := R0.dat i d h
    exact ⟨v, h1, IsD.mono e _ _ h2⟩
  own := fun i l kk h => by
    obtain ⟨d, z⟩ := hn i _ h
    cases z
  dj := fun i j l m kl km p h => by
    obtain ⟨d, z⟩ := hn i _ h
    cases z
  obj := fun i c ks l h => by
    obtain ⟨d, z⟩ := hn i _ h
    cases z
  oj := fun i j c ks l c' ks' l' h => by
    obtain ⟨d, z⟩ := hn i _ h
    cases z
  fns := fun i l q h => by
    obtain ⟨d, z⟩ := hn i _ h
    cases z
  tabs := R.tabs
  pt := R.pt
  nt := R.nt
theorem rel_done {K : PySem.W.Frag} {β : Addr} {P : Hp} {σ σ0 : L2.St} {H H0 G G0 : Hp} {s s0 : Sta} {D : Addr} {acc : List V} (R0 : Rel K β P σ H0 G0 s) (hD : H0 D = none) (R : Rel K β (upd (shut β H0 G0) D (.lst acc)) σ0 H G s0) (e : Ext G0 G) :
    Rel K β P σ H (upd G D (.lst acc)) { s with bag := s0.bag } := by
  have q := R.pr D _ upd_same
  have xx : Ext G (upd G D (.lst acc)) := Ext.new q.2
  have hb : β ≠ D := fun c => by have q := R.pb; rw [c, upd_same] at q; cases q
  have keep : ∀ p o, H0 p = some o → G0 p = none → p ≠ β → (∀ t ∈ Tabs.ts, t.1 ≠ p) → Nx p o → H p = some o ∧ upd G D (.lst acc) p = none := fun p o h1 h2 h3 h4 h5 => by
    have n : p ≠ D := ne_of_none h1 hD
    have k := R.pr p o (by rw [upd_ne n]; exact shut_some h1 h2 h3 h4 h5)
    exact ⟨k.1, by rw [upd_ne n]; exact k.2⟩
  exact {
    len := R0.len
    gh := fun a u h => by
      by_cases c : a = D
      · subst c; rw [upd_same] at h; cases h; exact q.1
      · rw [upd_ne c] at h; exact R.gh a u h
    pr := fun p o h => by
      have h1 := R0.pr p o h
      exact keep p o h1.1 h1.2 (fun z => by subst z; rw [R0.pb] at h; cases h) (fun t ht z => by rw [← z, (R0.tabs t ht).2.2] at h; cases h) (R0.pt p o h)
    pb := R0.pb
    bag := by
      obtain ⟨us, h1, h2, h3⟩ := R.bag
      exact ⟨us, h1, by rw [upd_ne hb]; exact h2, IsL.mono xx _ _ h3⟩
    dat := fun i d h => by
      obtain ⟨v, h1, h2⟩ := R0.dat i d h
      exact ⟨v, h1, IsD.mono (e.trans xx) _ _ h2⟩
    own := fun i l kk h => by
      obtain ⟨p, vs, h1, h2, h3, h4, h5, h6⟩ := R0.own i l _ h
      have k := keep p _ h2 h3 h5 (fun t ht z => (R0.tabs t ht).1.neO h2 z) nx_own
      exact ⟨p, vs, h1, k.1, k.2, h4, h5, IsL.mono (e.trans xx) _ _ h6⟩
    dj := R0.dj
    obj := fun i c ks l h => by
      obtain ⟨p, C, dx, vs, h1, h0, h2, h3, h4, h5, h6⟩ := R0.obj i c ks l h
      have n : p ≠ β := fun z => by
        obtain ⟨us, b1, _⟩ := R0.bag
        rw [← z, h2] at b1
        cases b1
      have k := keep p _ h2 h3 n (fun t ht z => (R0.tabs t ht).1.neI h2 z) nx_ins
      exact ⟨p, C, dx, vs, h1, h0, k.1, k.2, h4, h5, IsL.mono (e.trans xx) _ _ h6⟩
    oj := R0.oj
    fns := fun i l q h => (R0.fns i l q h).mono (e.trans xx)
    tabs := fun y hy => by
      obtain ⟨t, g, n⟩ := R.tabs y hy
      have z : y.1 ≠ D := fun z => by rw [z, upd_same] at n; cases n
      exact ⟨t.of rfl xx, by rw [upd_ne z]; exact g, (R0.tabs y hy).2.2⟩
    pt := R0.pt
    nt := fun a ps h => by
      by_cases c : a = D
      · subst c; rw [upd_same] at h; cases h
      · rw [upd_ne c] at h; exact R.nt a ps h }
theorem wipe_same {σ σ0 : L2.St} {vs : List Nat} (hl : σ0.length = (wipe σ vs).length) (h : ∀ j, j ∉ vs → σ0[j]? = (wipe σ vs)[j]?) : wipe σ0 vs = wipe σ vs := by
  apply List.ext_getElem?
  intro j
  rw [wipe_len] at hl
  by_cases c : j ∈ vs
  · rw [wipe_get, wipe_get, hl]
    by_cases q : j < σ.length
    · rw [if_pos ⟨c, q⟩, if_pos ⟨c, q⟩]
    · rw [if_neg fun z => q z.2, if_neg fun z => q z.2, List.getElem?_eq_none (by omega), List.getElem?_eq_none (by omega)]
  · rw [wipe_get, if_neg fun z => c z.1, h j c]
theorem te_comp {K : PySem.W.Frag} {wi : TI} {g : TG} {tt : TT} {te : TE} {vs is : List Nat} {f : DM (List Dt)} {h : Dt → Sta → Option Sta} {ft : DM Bool} {fe : DM Dt} (hi : TIok K wi f) (hg : TGok K g is h) (ht : TTok K tt ft) (he : TEok K te fe) (hv : ∀ j ∈ is, j ∈ vs) :
    TEok K (tLc wi g tt te vs) (mComp vs f h ft fe) := by
  intro β P σ H G s d s' R e Q q
  unfold mComp at e
  obtain ⟨⟨l, s1⟩, e1, e⟩ := Option.bind_eq_some_iff.mp e
  dsimp only at e
  split at e
  case isFalse => cases e
  rename_i hlen
  obtain ⟨⟨ys, bgF⟩, e2, e⟩ := Option.bind_eq_some_iff.mp e
  cases e
  refine hi β P σ H G s l s1 R e1 _ fun J H1 G1 Gd Y x1 R1 wk hG hY => ?_
  intro D hD
  have hn : ∀ (i : Nat) (x : Slo), (wipeS (s1.sl.map datOnly) vs)[i]? = some (some x) → ∃ d, x = .dat d := fun i x z => by
    obtain ⟨_, d', e3, _⟩ := hid_get z
    exact ⟨d', e3⟩
  have R0 := rel_hide R1 hD vs
  refine lc_it wk (fun i H2 => ∃ G2 bg acc ds rs, Ext G1 G2 ∧ Rel K β (upd (shut β H1 G1) D (.lst acc)) (wipe σ vs) H2 G2 ⟨wipeS (s1.sl.map datOnly) vs, bg⟩ ∧ IsL K β G2 ds acc ∧ acc.length ≤ i ∧
    compD (wipeS (s1.sl.map datOnly) vs) h ft fe (l.drop i) bg = some (rs, bgF) ∧ ds ++ rs = ys) ⟨G1, s1.bag, [], [], ys, Ext.refl G1, R0, isl_nil.mpr rfl, Nat.le_refl _, e2, rfl⟩ ?_ ?_ ?_
  · rintro i H2 hi' ⟨G2, bg, acc, ds, rs, x2, R2, _⟩
    exact hG H2 G2 x2 R2.gh
  · rintro i x H2 H3 hi' ⟨G2, bg, acc, ds, rs, x2, R2, ia, la, e3, e4⟩ y
    have hd : l[i]? = some l[i] := List.getElem?_eq_getElem hi'
    obtain ⟨G3, x3, R3, i3⟩ := hY i l[i] H2 x H3 _ _ G2 _ hd x2 R2 y
    rw [List.drop_eq_getElem_cons hi'] at e3
    unfold compD at e3
    obtain ⟨s3, e5, e3⟩ := Option.bind_eq_some_iff.mp e3
    obtain ⟨⟨b, s4⟩, e6, e3⟩ := Option.bind_eq_some_iff.mp e3
    refine hg β _ _ H3 G3 _ l[i] x s3 R3 i3 e5 _ fun σ4 H4 G4 x4 R4 c4 l4 => ⟨wipe_same l4 fun j hj => c4 j fun z => hj (hv j z), ?_⟩
    refine ht β _ _ H4 G4 s3 b s4 R4 e6 _ fun H5 G5 x5 R5 => ?_
    cases b with
    | true =>
      rw [if_pos rfl] at e3 ⊢
      obtain ⟨⟨dy, s5⟩, e7, e3⟩ := Option.bind_eq_some_iff.mp e3
      obtain ⟨⟨zs, bz⟩, e8, e3⟩ := Option.bind_eq_some_iff.mp e3
      cases e3
      refine he β _ _ H5 G5 s4 dy s5 R5 e7 _ fun v H6 G6 x6 R6 i6 => ?_
      have xx : Ext G2 G6 := ((x3.trans x4).trans x5).trans x6
      refine ⟨acc, (R6.pr D _ upd_same).1, Nat.lt_of_le_of_lt la (Nat.lt_of_lt_of_le hi' (Nat.le_trans hlen (by decide))), G6, s5.bag, acc ++ [v], ds ++ [dy], zs, x2.trans xx, rel_acc R6 R2 xx hn nx_lst, (IsL.mono xx _ _ ia).snoc i6, by simp; exact la, e8, ?_⟩
      rw [← e4]
      simp
    | false =>
      rw [if_neg Bool.false_ne_true] at e3 ⊢
      have xx : Ext G2 G5 := (x3.trans x4).trans x5
      exact ⟨G5, s4.bag, acc, ds, rs, x2.trans xx, rel_skip R5 R2 xx hn, IsL.mono xx _ _ ia, Nat.le_succ_of_le la, e3, e4⟩
  · rintro H2 ⟨G2, bg, acc, ds, rs, x2, R2, ia, la, e3, e4⟩
    rw [List.drop_length] at e3
    cases e3
    rw [List.append_nil] at e4
    subst e4
    have qd := R2.pr D _ upd_same
    have xx : Ext G2 (upd G2 D (.lst acc)) := Ext.new qd.2
    exact q (.ref D) H2 _ ((x1.trans x2).trans xx) (rel_done R1 hD R2 x2) (is_lst.mpr ⟨D, acc, rfl, upd_same, IsL.mono xx _ _ ia⟩)
omit [Me] in
def mYes : DM Bool := fun s => some (true, s)
omit [Me] in
def DTs (X : Cx) (ifs : List Expr) (f : DM Bool) : Prop := PTs X ifs (ttOf X.K f)
section
variable {X : Cx}
theorem dts_nil : DTs X [] mYes := by
  refine ⟨fun pins s σ H Q I k => ?_⟩
  obtain ⟨β, P, G, a, d, a', R, e1, q⟩ := k
  cases e1
  exact pts_nil.run pins s σ H Q I (q H G (Ext.refl G) R)
theorem de_comp {elt tg iter : Expr} {ifs : List Expr} {scope : Scope} {own : List (Str × Nat)} {pos : Pos} {is : List Nat} {f : DM (List Dt)} {h : Dt → Sta → Option Sta} {ft : DM Bool} {fe : DM Dt} (hc : X.calm = true) (hN : X.N.Nodup) (hi : DI X tg iter f) (ok : BlkOk X.N X.env.scope scope own)
    (hg : ∀ (s : Shared) (H : Hp) (C : Addr) (cl : List (Str × Addr)) (fp : List Addr), DG (X.blk s H scope (compEnvC scope cl C X.env) fp) tg is h) (ht : ∀ (s : Shared) (H : Hp) (C : Addr) (cl : List (Str × Addr)) (fp : List Addr), DTs (X.blk s H scope (compEnvC scope cl C X.env) fp) ifs ft)
    (he : ∀ (s : Shared) (H : Hp) (C : Addr) (cl : List (Str × Addr)) (fp : List Addr), DE (X.blk s H scope (compEnvC scope cl C X.env) fp) elt fe) (hv : ∀ j ∈ is, j ∈ own.map (·.2)) (hs : ∀ x, foldedSetIterable iter X.env x = pure x := by intro _; rfl) :
    DE X (.ListComp elt [⟨tg, iter, ifs, 0⟩] scope pos) (mComp (own.map (·.2)) f h ft fe) := by
  obtain ⟨wi, p1, o1⟩ := hi
  exact ⟨_, pe_lc (g := gOf X.K is h) (tt := ttOf X.K ft) (te := tOf X.K fe) hc hN p1 ok (fun s H C cl fp => (hg s H C cl fp).pg) (fun s H C cl fp => ht s H C cl fp) (fun s H C cl fp => (he s H C cl fp).pe) hs, te_comp o1 gOf_ok ttOf_ok tOf_ok hv⟩
theorem ds_setComp {i : Nat} {y : Str} {py : Pos} {elt tg iter : Expr} {ifs : List Expr} {scope : Scope} {own : List (Str × Nat)} {pos spos : Pos} {is : List Nat} {f : DM (List Dt)} {h : Dt → Sta → Option Sta} {ft : DM Bool} {fe : DM Dt} (hc : X.calm = true) (hN : X.N.Nodup) (hy : X.N[i]? = some y) (hyl : X.env.scope.names.lookup y = some .local)
    (hsw : swapsWith (.ListComp elt [⟨tg, iter, ifs, 0⟩] scope pos) (some (.Name y py)) spos.line X.env = pure true) (hi : DI X tg iter f) (ok : BlkOk X.N X.env.scope scope own)
    (hg : ∀ (s : Shared) (H : Hp) (C : Addr) (cl : List (Str × Addr)) (fp : List Addr), DG (X.blk s H scope (compEnvC scope cl C X.env) fp) tg is h) (ht : ∀ (s : Shared) (H : Hp) (C : Addr) (cl : List (Str × Addr)) (fp : List Addr), DTs (X.blk s H scope (compEnvC scope cl C X.env) fp) ifs ft)
    (he : ∀ (s : Shared) (H : Hp) (C : Addr) (cl : List (Str × Addr)) (fp : List Addr), DE (X.blk s H scope (compEnvC scope cl C X.env) fp) elt fe) (hv : ∀ j ∈ is, j ∈ own.map (·.2)) (hs : ∀ x, foldedSetIterable iter X.env x = pure x := by intro _; rfl) :
    DS X (.Assign [.Name y py] (.ListComp elt [⟨tg, iter, ifs, 0⟩] scope pos) spos) (kAsg (mComp (own.map (·.2)) f h ft fe) (hName i)) := by
  obtain ⟨wi, p1, o1⟩ := hi
  refine ⟨_, ps_setLc (g := gOf X.K is h) (tt := ttOf X.K ft) (te := tOf X.K fe) hc hN hy hyl hsw p1 ok (fun s H C cl fp => (hg s H C cl fp).pg) (fun s H C cl fp => ht s H C cl fp) (fun s H C cl fp => (he s H C cl fp).pe) hs, fun β P σ H G s r s' R e D k => ?_⟩
  unfold kAsg at e
  obtain ⟨⟨x, s1⟩, e1, e⟩ := Option.bind_eq_some_iff.mp e
  obtain ⟨s2, e2, e⟩ := Option.bind_eq_some_iff.mp e
  cases e2
  cases e
  refine te_comp o1 gOf_ok ttOf_ok tOf_ok hv β P σ H G s x s1 R e1 _ fun v H1 G1 x1 R1 i1 => ?_
  exact k _ H1 G1 x1 (R1.set i1)
end
end DL
namespace DL
open PySem PySem.Spec PyProof.Rows L2
variable [Tabs] [Me]
omit [Me] in
def DK (X : Cx) (kws : List Keyword) (f : DM (List Dt)) : Prop := ∃ t, PK X kws t ∧ TAok X.K t f
section
variable {X : Cx}
theorem dk_nil : DK X [] mNil := ⟨_, pk_nil, fun β P σ H G s b s' R e Q q => by cases e; exact q _ H G (Ext.refl G) R (isl_nil.mpr rfl)⟩
theorem dk_cons {e : Expr} {es : List Keyword} {f : DM Dt} {g : DM (List Dt)} {nm : Option Str} {kpos : Pos} (ha : DE X e f) (hb : DK X es g) : DK X (⟨nm, e, kpos⟩ :: es) (mCons f g) := by
  obtain ⟨t, p, o⟩ := ha
  obtain ⟨u, p2, o2⟩ := hb
  refine ⟨_, pk_cons p p2, fun β P σ H G s b s' R e Q q => ?_⟩
  unfold mCons at e
  obtain ⟨⟨x, s1⟩, e1, e⟩ := Option.bind_eq_some_iff.mp e
  obtain ⟨⟨y, s2⟩, e2, e⟩ := Option.bind_eq_some_iff.mp e
  cases e
  refine o β P σ H G s x s1 R e1 _ fun v H1 G1 x1 R1 i1 => ?_
  refine o2 β P σ H1 G1 s1 y s2 R1 e2 _ fun vs H2 G2 x2 R2 i2 => ?_
  exact q _ H2 G2 (x1.trans x2) R2 (isl_cons.mpr ⟨v, vs, rfl, IsD.mono x2 _ _ i1, i2⟩)
end
omit [Me] in
def spLaw (K : PySem.W.Frag) : Sp := fun vs H Q _ => ∃ (a : Addr) (ns : List Int), vs = [.ref a] ∧ SqL K H a (ns.map V.int) ∧ ns.length ≤ 63 ∧ (∀ q ∈ Tabs.ts, H q.1 = some (.tbl #[])) ∧ ∀ H', Q (.bl true) H'
omit [Me] in
def bag0 (ns : List Int) (seed : Int) : List Dt := [.lst (ns.map Dt.int), .int 0, .int 0, .int seed, .int 0]
theorem law_rel {K : PySem.W.Frag} {β l : Addr} {ns : List Int} {seed : Int} {H : Hp} {a : V} {n : Nat} (hn : β ≠ l) (hl : H l = some (.lst (ns.map V.int))) (hb : H β = some (.lst [.ref l, .int 0, .int 0, .int seed, .int 0])) (ht : ∀ q ∈ Tabs.ts, H q.1 = some (.tbl #[])) :
    Rel K β (fun _ => none) ([some a, some (.ref β)] ++ List.replicate n none) H (upd (fun _ => none) l (.lst (ns.map V.int))) ⟨[none, some (.dat .bag)] ++ List.replicate n none, bag0 ns seed⟩ where
  len := by simp
  gh := fun p o e => by
    by_cases c : p = l
    · subst c; rw [upd_same] at e; cases e; exact hl
    · rw [upd_ne c] at e; cases e
  pr := fun p o e => by cases e
  pb := rfl
  bag := ⟨_, hb, by rw [upd_ne hn], isl_cons.mpr ⟨_, _, rfl, is_lst.mpr ⟨l, _, rfl, upd_same, IsL.ints⟩, isl_cons.mpr ⟨_, _, rfl, is_int.mpr rfl, isl_cons.mpr ⟨_, _, rfl, is_int.mpr rfl, isl_cons.mpr ⟨_, _, rfl, is_int.mpr rfl, isl_cons.mpr ⟨_, _, rfl, is_int.mpr rfl, isl_nil.mpr rfl⟩⟩⟩⟩⟩⟩
  dat := fun i d e => by
    match i, e with
    | 0, e => cases e
    | 1, e => cases e; exact ⟨_, rfl, is_bag.mpr rfl⟩
    | i + 2, e =>
      simp only [List.cons_append, List.nil_append, List.getElem?_cons_succ, List.getElem?_replicate] at e
      split at e <;> cases e
  own := fun i d kk e => by
    match i, e with
    | 0, e => cases e
    | 1, e => cases e
    | i + 2, e =>
      simp only [List.cons_append, List.nil_append, List.getElem?_cons_succ, List.getElem?_replicate] at e
      split at e <;> cases e
  dj := fun i _ d _ kl km _ e => by
    match i, e with
    | 0, e => cases e
    | 1, e => cases e
    | i + 2, e =>
      simp only [List.cons_append, List.nil_append, List.getElem?_cons_succ, List.getElem?_replicate] at e
      split at e <;> cases e
  obj := fun i c ks l e => by
    match i, e with
    | 0, e => cases e
    | 1, e => cases e
    | i + 2, e =>
      simp only [List.cons_append, List.nil_append, List.getElem?_cons_succ, List.getElem?_replicate] at e
      split at e <;> cases e
  oj := fun i _ c ks l _ _ _ e => by
    match i, e with
    | 0, e => cases e
    | 1, e => cases e
    | i + 2, e =>
      simp only [List.cons_append, List.nil_append, List.getElem?_cons_succ, List.getElem?_replicate] at e
      split at e <;> cases e
  fns := fun i l q e => by
    match i, e with
    | 0, e => cases e
    | 1, e => cases e
    | i + 2, e =>
      simp only [List.cons_append, List.nil_append, List.getElem?_cons_succ, List.getElem?_replicate] at e
      split at e <;> cases e
  tabs := fun q hq => by
    have h := ht q hq
    refine ⟨⟨#[], h, trivial, fun pos cv hc => by cases hc⟩, ?_, rfl⟩
    rw [upd_ne (fun z => by rw [z, hl] at h; cases h)]
  pt := fun p o h => by cases h
  nt := fun p ps e => by
    by_cases c : p = l
    · subst c; rw [upd_same] at e; cases e
    · rw [upd_ne c] at e; cases e
end DL
namespace DL
open PySem PySem.Spec PyProof.Rows L2
variable [Tabs] [Me]
omit [Me] in
inductive DJ (X : Cx) : List Expr → List (DM Dt) → Prop where
  | nil : DJ X [] []
  | cons {e : Expr} {f : DM Dt} {es : List Expr} {fs : List (DM Dt)} (h : DE X e f) (r : DJ X es fs) : DJ X (e :: es) (f :: fs)
end DL
namespace DL
open PySem PySem.Spec PyProof.Rows L2
variable [Tabs] [Me]
section
variable {K : PySem.W.Frag} {β : Addr} {P : Hp} {σ : L2.St} {H G : Hp} {s : Sta}
/-- a new list, held by slot i alone -/
theorem Rel.setOwn (R : Rel K β P σ H G s) {i : Nat} {p : Addr} {l : List Dt} {vs : List V} (hp : H p = none) (h : IsL K β G l vs) :
    Rel K β P (σ.set i (some (.ref p))) (upd H p (.lst vs)) G { s with sl := s.sl.set i (some (.own l)) } where
  len := by simp [R.len]
  gh := fun a o e => by rw [upd_ne (ne_of_none e (R.free hp))]; exact R.gh a o e
  pr := fun a o e => by
    have h1 := R.pr a o e
    rw [upd_ne (ne_of_none h1.1 hp)]; exact h1
  pb := R.pb
  bag := by
    obtain ⟨us, h1, h2, h3⟩ := R.bag
    exact ⟨us, by rw [upd_ne (ne_of_none h1 hp)]; exact h1, h2, h3⟩
  dat := fun j d q => by
    rw [get_set] at q ⊢
    rw [R.len]
    by_cases c : i = j ∧ i < s.sl.length
    · rw [if_pos c] at q; cases q
    · rw [if_neg c] at q ⊢; exact R.dat j d q
  own := fun j m kk q => by
    rw [get_set] at q ⊢
    rw [R.len]
    by_cases c : i = j ∧ i < s.sl.length
    · rw [if_pos c] at q ⊢
      cases q
      obtain ⟨us, b1, _, _⟩ := R.bag
      refine ⟨p, vs, rfl, upd_same, R.free hp, ?_, (ne_of_none b1 hp).symm, h⟩
      cases e : P p with
      | none => rfl
      | some o => have := (R.pr p o e).1; rw [hp] at this; cases this
    · rw [if_neg c] at q ⊢
      obtain ⟨p', us, h1, h2, h3⟩ := R.own j m _ q
      exact ⟨p', us, h1, by rw [upd_ne (ne_of_none h2 hp)]; exact h2, h3⟩
  dj := fun j k l m kl km a q1 q2 r1 r2 => by
    simp only [get_set] at q1 q2 r1 r2
    rw [R.len] at r1 r2
    by_cases c : i = j ∧ i < s.sl.length
    · by_cases c' : i = k ∧ i < s.sl.length
      · exact c.1.symm.trans c'.1
      · rw [if_pos c] at r1
        rw [if_neg c'] at q2 r2
        cases r1
        obtain ⟨p', us, h1, h2, _⟩ := R.own k m _ q2
        rw [h1] at r2
        cases r2
        rw [hp] at h2; cases h2
    · by_cases c' : i = k ∧ i < s.sl.length
      · rw [if_pos c'] at r2
        rw [if_neg c] at q1 r1
        cases r2
        obtain ⟨p', us, h1, h2, _⟩ := R.own j l _ q1
        rw [h1] at r1
        cases r1
        rw [hp] at h2; cases h2
      · rw [if_neg c] at q1 r1
        rw [if_neg c'] at q2 r2
        exact R.dj j k l m _ _ a q1 q2 r1 r2
  obj := fun j c0 ks l q => by
    rw [get_set] at q
    by_cases c : i = j ∧ i < s.sl.length
    · rw [if_pos c] at q
      cases q
    · rw [if_neg c] at q
      obtain ⟨p', C, dx, us, h1, h0, h2, h3⟩ := R.obj j c0 ks l q
      refine ⟨p', C, dx, us, ?_, h0, by rw [upd_ne (ne_of_none h2 hp)]; exact h2, h3⟩
      rw [get_set, R.len, if_neg c]
      exact h1
  oj := fun j k c0 ks l c1 ks' l' q1 q2 => by
    simp only [get_set] at q1 q2
    by_cases c : i = j ∧ i < s.sl.length
    · rw [if_pos c] at q1; cases q1
    by_cases c' : i = k ∧ i < s.sl.length
    · rw [if_pos c'] at q2; cases q2
    rw [if_neg c] at q1
    rw [if_neg c'] at q2
    exact R.oj j k _ _ _ _ _ _ q1 q2
  fns := fun j l q e => by
    rw [get_set] at e
    by_cases c : i = j ∧ i < s.sl.length
    · rw [if_pos c] at e; cases e
    · rw [if_neg c] at e
      exact (R.fns j l q e).of (by rw [get_set, R.len, if_neg c])
  tabs := fun q hq => by
    obtain ⟨t, g, n⟩ := R.tabs q hq
    exact ⟨t.of (upd_ne (t.ne hp)) (Ext.refl G), g, n⟩
  pt := R.pt
  nt := R.nt
/-- what an own list holds is changed -/
theorem Rel.putOwn (R : Rel K β P σ H G s) {i : Nat} {p : Addr} {l l' : List Dt} {vs' : List V} (hi : s.sl[i]? = some (some (.own l))) (hp : σ[i]? = some (some (.ref p))) (h : IsL K β G l' vs') :
    Rel K β P σ (upd H p (.lst vs')) G { s with sl := s.sl.set i (some (.own l')) } := by
  obtain ⟨p', vs, e1, e2, e3, e4, e5, _⟩ := R.own i l _ hi
  rw [hp] at e1
  cases e1
  have hlen : i < s.sl.length := (List.getElem?_eq_some_iff.mp hi).1
  exact {
    len := by simp [R.len]
    gh := fun a o e => by rw [upd_ne (ne_of_none e e3)]; exact R.gh a o e
    pr := fun a o e => by
      have n : a ≠ p := fun z => by rw [z, e4] at e; cases e
      rw [upd_ne n]; exact R.pr a o e
    pb := R.pb
    bag := by
      obtain ⟨us, h1, h2, h3⟩ := R.bag
      exact ⟨us, by rw [upd_ne e5.symm]; exact h1, h2, h3⟩
    dat := fun j d q => by
      rw [get_set] at q
      by_cases c : i = j ∧ i < s.sl.length
      · rw [if_pos c] at q; cases q
      · rw [if_neg c] at q; exact R.dat j d q
    own := fun j m kk q => by
      rw [get_set] at q
      by_cases c : i = j ∧ i < s.sl.length
      · rw [if_pos c] at q
        cases q
        obtain ⟨rfl, _⟩ := c
        exact ⟨p, vs', hp, upd_same, e3, e4, e5, h⟩
      · rw [if_neg c] at q
        obtain ⟨p', us, h1, h2, h3⟩ := R.own j m _ q
        have n : p' ≠ p := fun z => by
          subst z
          exact c ⟨R.dj i j l m _ _ p' hi q hp h1, hlen⟩
        exact ⟨p', us, h1, by rw [upd_ne n]; exact h2, h3⟩
    dj := fun j k l1 m kl km a q1 q2 r1 r2 => by
      simp only [get_set] at q1 q2
      by_cases c : i = j ∧ i < s.sl.length
      · obtain ⟨rfl, _⟩ := c
        by_cases c' : i = k ∧ i < s.sl.length
        · exact c'.1
        · rw [if_neg c'] at q2
          exact R.dj i k l m _ _ a hi q2 r1 r2
      · rw [if_neg c] at q1
        by_cases c' : i = k ∧ i < s.sl.length
        · obtain ⟨rfl, _⟩ := c'
          exact R.dj j i l1 l _ _ a q1 hi r1 r2
        · rw [if_neg c'] at q2
          exact R.dj j k l1 m _ _ a q1 q2 r1 r2
    obj := fun j c0 ks m q => by
      rw [get_set] at q
      by_cases c : i = j ∧ i < s.sl.length
      · rw [if_pos c] at q; cases q
      · rw [if_neg c] at q
        obtain ⟨p', C, dx, us, h1, h0, h2, h3⟩ := R.obj j c0 ks m q
        have n : p' ≠ p := fun z => by
          rw [z, e2] at h2
          cases h2
        exact ⟨p', C, dx, us, h1, h0, by rw [upd_ne n]; exact h2, h3⟩
    oj := fun j k c0 ks l c1 ks' l' q1 q2 => by
      simp only [get_set] at q1 q2
      by_cases c : i = j ∧ i < s.sl.length
      · rw [if_pos c] at q1; cases q1
      by_cases c' : i = k ∧ i < s.sl.length
      · rw [if_pos c'] at q2; cases q2
      rw [if_neg c] at q1
      rw [if_neg c'] at q2
      exact R.oj j k _ _ _ _ _ _ q1 q2
    fns := fun j l q e => by
      rw [get_set] at e
      by_cases c : i = j ∧ i < s.sl.length
      · rw [if_pos c] at e; cases e
      · rw [if_neg c] at e
        exact R.fns j l q e
    tabs := fun q hq => by
      obtain ⟨t, g, n⟩ := R.tabs q hq
      exact ⟨t.of (upd_ne (t.neL e2)) (Ext.refl G), g, n⟩
    pt := R.pt
    nt := R.nt }
/-- an own list is let go: from now on it is data -/
theorem Rel.freeze (R : Rel K β P σ H G s) {i : Nat} {l : List Dt} (hi : s.sl[i]? = some (some (.own l))) : ∃ p vs G', σ[i]? = some (some (.ref p)) ∧ Ext G G' ∧ Rel K β P σ H G' { s with sl := s.sl.set i (some (.dat (.lst l))) } ∧ IsD K β G' (.lst l) (.ref p) ∧ G' p = some (.lst vs) := by
  obtain ⟨p, vs, e1, e2, e3, e4, e5, e6⟩ := R.own i l _ hi
  have xx : Ext G (upd G p (.lst vs)) := Ext.new e3
  have hd : IsD K β (upd G p (.lst vs)) (.lst l) (.ref p) := is_lst.mpr ⟨p, vs, rfl, upd_same, IsL.mono xx _ _ e6⟩
  have hlen : i < s.sl.length := (List.getElem?_eq_some_iff.mp hi).1
  refine ⟨p, vs, _, e1, xx, ?_, hd, upd_same⟩
  exact {
    len := by simp [R.len]
    gh := fun a o e => by
      by_cases c : a = p
      · subst c; rw [upd_same] at e; cases e; exact e2
      · rw [upd_ne c] at e; exact R.gh a o e
    pr := fun a o e => by
      have n : a ≠ p := fun z => by rw [z, e4] at e; cases e
      rw [upd_ne n]; exact R.pr a o e
    pb := R.pb
    bag := by
      obtain ⟨us, h1, h2, h3⟩ := R.bag
      exact ⟨us, h1, by rw [upd_ne e5.symm]; exact h2, IsL.mono xx _ _ h3⟩
    dat := fun j d q => by
      rw [get_set] at q
      by_cases c : i = j ∧ i < s.sl.length
      · rw [if_pos c] at q
        cases q
        obtain ⟨rfl, _⟩ := c
        exact ⟨_, e1, hd⟩
      · rw [if_neg c] at q
        obtain ⟨v, h1, h2⟩ := R.dat j d q
        exact ⟨v, h1, IsD.mono xx _ _ h2⟩
    own := fun j m kk q => by
      rw [get_set] at q
      by_cases c : i = j ∧ i < s.sl.length
      · rw [if_pos c] at q; cases q
      · rw [if_neg c] at q
        obtain ⟨p', us, h1, h2, h3, h4, h5, h6⟩ := R.own j m _ q
        have n : p' ≠ p := fun z => by
          subst z
          exact c ⟨R.dj i j l m _ _ p' hi q e1 h1, hlen⟩
        exact ⟨p', us, h1, h2, by rw [upd_ne n]; exact h3, h4, h5, IsL.mono xx _ _ h6⟩
    dj := fun j k l1 m kl km a q1 q2 r1 r2 => by
      simp only [get_set] at q1 q2
      by_cases c : i = j ∧ i < s.sl.length
      · rw [if_pos c] at q1; cases q1
      · rw [if_neg c] at q1
        by_cases c' : i = k ∧ i < s.sl.length
        · rw [if_pos c'] at q2; cases q2
        · rw [if_neg c'] at q2
          exact R.dj j k l1 m _ _ a q1 q2 r1 r2
    obj := fun j c0 ks m q => by
      rw [get_set] at q
      by_cases c : i = j ∧ i < s.sl.length
      · rw [if_pos c] at q; cases q
      · rw [if_neg c] at q
        obtain ⟨p', C, dx, us, h1, h0, h2, h3, h4, h5, h6⟩ := R.obj j c0 ks m q
        have n : p' ≠ p := fun z => by
          rw [z, e2] at h2
          cases h2
        exact ⟨p', C, dx, us, h1, h0, h2, by rw [upd_ne n]; exact h3, h4, h5, IsL.mono xx _ _ h6⟩
    oj := fun j k c0 ks l c1 ks' l' q1 q2 => by
      simp only [get_set] at q1 q2
      by_cases c : i = j ∧ i < s.sl.length
      · rw [if_pos c] at q1; cases q1
      by_cases c' : i = k ∧ i < s.sl.length
      · rw [if_pos c'] at q2; cases q2
      rw [if_neg c] at q1
      rw [if_neg c'] at q2
      exact R.oj j k _ _ _ _ _ _ q1 q2
    fns := fun j l q e => by
      rw [get_set] at e
      by_cases c : i = j ∧ i < s.sl.length
      · rw [if_pos c] at e; cases e
      · rw [if_neg c] at e
        exact (R.fns j l q e).mono xx
    tabs := fun q hq => by
      obtain ⟨t, g, n⟩ := R.tabs q hq
      exact ⟨t.of rfl xx, by rw [upd_ne (t.neL e2)]; exact g, n⟩
    pt := R.pt
    nt := fun a ps h => by
      by_cases c : a = p
      · subst c; rw [upd_same] at h; cases h
      · rw [upd_ne c] at h; exact R.nt a ps h }
end
omit [Me] in
/-- x = [..], x being changed later on -/
def kOwn (i : Nat) (f : DM (List Dt)) : DMs := fun s => (f s).bind fun p => if p.1.length ≤ 1000 then some (.nx, { p.2 with sl := p.2.sl.set i (some (.own p.1)) }) else none
omit [Me] in
/-- the value of such a name: it is let go -/
def mMove (i : Nat) : DM Dt := fun s => match s.sl[i]? with
  | some (some (.mut none l)) => some (.lst l, { s with sl := s.sl.set i (some (.dat (.lst l))) })
  | _ => none
omit [Me] in
def mAppend (i : Nat) (f : DM Dt) : DM Dt := fun s => (f s).bind fun p => match p.2.sl[i]? with
  | some (some (.mut none l)) => if l.length < 100000 then some (.non, { p.2 with sl := p.2.sl.set i (some (.own (l ++ [p.1]))) }) else none
  | _ => none
section
variable {X : Cx}
theorem ds_own {i : Nat} {x : Str} {es : List Expr} {f : DM (List Dt)} {pos' p pos : Pos} (hN : X.N.Nodup) (hi : X.N[i]? = some x) (hx : Loc X.env.scope x) (ha : DA X es f) (hs : swapsWith (.List es p) (some (.Name x pos')) pos.line X.env = pure false := by rfl) (hf : X.fn x = true ∨ X.env.scope.names.lookup x = some .local := by first | exact .inl rfl | exact .inr rfl | assumption) :
    DS X (.Assign [.Name x pos'] (.List es p) pos) (kOwn i f) := by
  obtain ⟨t, pp, o⟩ := ha
  refine ⟨_, ps_set hN hi hx (pe_lst pp) hs hf, fun β P σ H G s r s' R e D k => ?_⟩
  unfold kOwn at e
  obtain ⟨⟨l, s1⟩, e1, e⟩ := Option.bind_eq_some_iff.mp e
  dsimp only at e
  split at e
  · rename_i hl
    cases e
    refine o β P σ H G s l s1 R e1 _ fun vs H1 G1 x1 R1 i1 => ?_
    refine ⟨le_line (by rw [i1.len]; exact hl), fun a ha => ?_⟩
    exact k _ _ G1 x1 (R1.setOwn ha i1)
  · cases e
theorem de_move {e : Expr} (i : Nat) (h : PE X e (tVar i)) : DE X e (mMove i) := ⟨_, h, fun β P σ H G s d s' R e Q q => by
  unfold mMove at e
  split at e
  · rename_i l hi
    cases e
    obtain ⟨p, vs, G', e1, xx, R', hd, _⟩ := R.freeze hi
    exact ⟨_, e1, q _ H G' xx R' hd⟩
  · cases e⟩
theorem de_append {o a : Expr} {f : DM Dt} {apos cpos : Pos} (i : Nat) (h : PE X o (tVar i)) (ha : DE X a f) (hne : ∀ s d s', f s = some (d, s') → s'.sl[i]? = s.sl[i]?)
    (hbase : attributeBase o "append" X.env (eval o X.env) = eval o X.env := by rfl)
    (hfew : ((backTo cpos (starEach [a] X.env)).all (fun x => !x.1) && (backToKw cpos (keywordEach [] X.env)).all (fun x => x.1.isSome)
      && decide ([a].length + ([] : List Keyword).length + (if ([] : List Keyword).isEmpty then 0 else 1) < 30)) = true := by rfl)
    (hline : (apos.endLine == cpos.line) = true := by rfl) (hs : starEach [a] X.env = (false, eval a X.env) :: starEach [] X.env := by rfl) (hplain : (backTo cpos (starEach [] X.env)).any (·.1) = false := by rfl) :
    DE X (.Call (.Attribute o "append" apos) [a] [] cpos) (mAppend i f) := by
  obtain ⟨t, p1, o1⟩ := ha
  refine ⟨_, pe_bm PySem.F.plainAttrs_list PySem.F.slot_list_append PySem.F.type_list_append mt_append h (pa_cons p1 pa_nil hs) hbase hfew hline hs hplain, fun β P σ H G s d s' R e Q q => ?_⟩
  unfold mAppend at e
  obtain ⟨⟨x, s1⟩, e1, e⟩ := Option.bind_eq_some_iff.mp e
  dsimp only at e
  split at e
  · rename_i l hi
    split at e
    · rename_i hl
      cases e
      have hi0 : s.sl[i]? = some (some (.own l)) := by rw [← hne _ _ _ e1]; exact hi
      obtain ⟨p, vs, q1, q2, _⟩ := R.own i l _ hi0
      refine ⟨_, q1, .inl ⟨rfl, vs, .inl (.inl q2)⟩, ?_⟩
      refine o1 β P σ H G s x s1 R e1 _ fun v H1 G1 x1 R1 i1 => ?_
      obtain ⟨p', vs', r1, r2, r3, r4, r5, r6⟩ := R1.own i l _ hi
      rw [q1] at r1
      cases r1
      refine ⟨p, vs', v, rfl, rfl, r2, by rw [r6.len]; exact Nat.lt_of_lt_of_le hl (by decide), ?_⟩
      exact q _ _ G1 x1 (R1.putOwn hi q1 (r6.snoc i1)) (is_non.mpr rfl)
    · cases e
  · cases e
end
end DL
namespace DL
open PySem PySem.Spec PyProof.Rows L2
variable [Tabs] [Me]
omit [Me] in
def keyD : Dt → Option Key
  | .str x => some (.inr x)
  | .int i => some (.inl i)
  | _ => none
omit [Me] in
inductive Tbl : List DictEntry → List (Str × Str) → Prop
  | nil : Tbl [] []
  | cons {h : Int} {k v : Str} {t u : Tok} {r : List DictEntry} {l : List (Str × Str)} (n : Tbl r l) : Tbl (⟨h, .str k t, .str v u⟩ :: r) ((k, v) :: l)
omit [Me] in
def tblGet : List (Str × Str) → Str → Option Str
  | [], _ => none
  | (k, v) :: l, z => if (k == z) = true then some v else tblGet l z
theorem tbl_find {es : List DictEntry} {l : List (Str × Str)} (h : Tbl es l) (z : Str) : es.any (·.refKey) = false ∧ (match es.find? (·.key.isStr z) with | some e => ∃ v, tblGet l z = some v ∧ RelV (.str v) e.val | none => tblGet l z = none) := by
  induction h with
  | nil => exact ⟨rfl, rfl⟩
  | @cons hh k v t u r l n ih =>
    refine ⟨by rw [List.any_cons, ih.1]; rfl, ?_⟩
    have e : (Value.str k t).isStr z = (k == z) := PySem.W.isStr_of z _
    cases c : (k == z) with
    | true =>
      have e1 : List.find? (fun x => x.key.isStr z) ((⟨hh, .str k t, .str v u⟩ : DictEntry) :: r) = some ⟨hh, .str k t, .str v u⟩ := by
        rw [List.find?_cons_of_pos]
        show (Value.str k t).isStr z = true
        rw [e, c]
      rw [e1]
      exact ⟨v, by unfold tblGet; rw [c]; rfl, ⟨u, rfl⟩⟩
    | false =>
      have e1 : List.find? (fun x => x.key.isStr z) ((⟨hh, .str k t, .str v u⟩ : DictEntry) :: r) = List.find? (fun x => x.key.isStr z) r := by
        rw [List.find?_cons_of_neg]
        show ¬ (Value.str k t).isStr z = true
        rw [e, c]
        exact Bool.false_ne_true
      have e2 : tblGet ((k, v) :: l) z = tblGet l z := by
        show (if (k == z) = true then some v else tblGet l z) = _
        rw [c]
        rfl
      rw [e1, e2]
      exact ih.2
omit [Me] in
structure KTbl (K : PySem.W.Frag) (w : World) (d : Addr) (l : List (Str × Str)) : Prop where
  ex : ∃ es n, KDict K w d es n ∧ Tbl es.toList l
theorem KTbl.get {K : PySem.W.Frag} {w : World} {d : Addr} {l : List (Str × Str)} (T : KTbl K w d l) (z : Str) : match tblGet l z with | some v => ∃ u, PySem.W.nsIn K d z = some (some u) ∧ RelV (.str v) u | none => PySem.W.nsIn K d z = some none := by
  obtain ⟨es, n, D, t⟩ := T.ex
  obtain ⟨h1, h2⟩ := tbl_find t z
  have e : PySem.W.nsIn K d z = (match es.toList.find? (·.key.isStr z) with | some e => some (some e.val) | none => if es.toList.any (·.refKey) then none else some none) := by
    unfold PySem.W.nsIn
    rw [D.at_]
    rfl
  rw [e, h1]
  cases c : es.toList.find? (·.key.isStr z) with
  | some e' =>
    rw [c] at h2
    obtain ⟨v, a, b⟩ := h2
    rw [a]
    exact ⟨_, rfl, b⟩
  | none =>
    rw [c] at h2
    rw [h2]
    rfl
omit [Me] in
def wRev (f : DM Dt) : DM (List Dt) := fun s => (f s).bind fun p => match p.1 with
  | .lst l => some (l.reverse, p.2)
  | .tup l => some (l.reverse, p.2)
  | _ => none
section
variable {X : Cx} {tg e : Expr} {f : DM Dt} {p pos : Pos}
omit [Me] in
/-- f(*x, y), (*x, y) -/
def mStar (f : DM Dt) (g : DM (List Dt)) : DM (List Dt) := fun s => (f s).bind fun p => match p.1 with
  | .tup l => (g p.2).bind fun q => some (l ++ q.1, q.2)
  | .lst l => (g p.2).bind fun q => some (l ++ q.1, q.2)
  | _ => none
theorem da_star {es : List Expr} {g : DM (List Dt)} (h : DE X e f) (hr : DA X es g) (hs : starEach (.Starred e p :: es) X.env = (true, eval e X.env) :: starEach es X.env := by rfl) : DA X (.Starred e p :: es) (mStar f g) := by
  obtain ⟨t, p1, o1⟩ := h
  obtain ⟨u, p2, o2⟩ := hr
  refine ⟨_, StX.pa_star p1 p2 hs, fun β P σ H G s ds s' R e1 Q q => ?_⟩
  unfold mStar at e1
  obtain ⟨⟨x, s1⟩, e2, e1⟩ := Option.bind_eq_some_iff.mp e1
  cases x with
  | tup l =>
    obtain ⟨⟨y, s2⟩, e3, e1⟩ := Option.bind_eq_some_iff.mp e1
    cases e1
    refine o1 β P σ H G s _ s1 R e2 _ fun v H1 G1 x1 R1 i1 => ?_
    obtain ⟨a, vs, rfl, h1, h2⟩ := is_tup.mp i1
    refine ⟨a, vs, rfl, .inl (ext_t R1.gh h1), ?_⟩
    exact o2 β P σ H1 G1 s1 y s2 R1 e3 _ fun us H2 G2 x2 R2 i2 => q _ H2 G2 (x1.trans x2) R2 ((IsL.mono x2 _ _ h2).append i2)
  | lst l =>
    obtain ⟨⟨y, s2⟩, e3, e1⟩ := Option.bind_eq_some_iff.mp e1
    cases e1
    refine o1 β P σ H G s _ s1 R e2 _ fun v H1 G1 x1 R1 i1 => ?_
    obtain ⟨a, vs, rfl, h1, h2⟩ := is_lst.mp i1
    refine ⟨a, vs, rfl, .inr (.inl (.inl (R1.gh _ _ h1))), ?_⟩
    exact o2 β P σ H1 G1 s1 y s2 R1 e3 _ fun us H2 G2 x2 R2 i2 => q _ H2 G2 (x1.trans x2) R2 ((IsL.mono x2 _ _ h2).append i2)
  | _ => cases e1
end
end DL
namespace DL
open PySem PySem.Spec PyProof.Rows L2
variable [Tabs] [Me]
omit [Me] in
def Kp (i : Nat) {α : Type} (f : DM α) : Prop := ∀ s d s', f s = some (d, s') → s'.sl[i]? = s.sl[i]?
theorem kp_var {i j : Nat} : Kp i (mVar j) := fun s d s' h => by
  unfold mVar at h
  split at h <;> first | (cases h; rfl) | cases h
theorem kp_c {i : Nat} {d : Dt} : Kp i (mC d) := fun s d s' h => by cases h; rfl
theorem kp_nil {i : Nat} : Kp i mNil := fun s d s' h => by cases h; rfl
theorem kp_cons {i : Nat} {f : DM Dt} {g : DM (List Dt)} (hf : Kp i f) (hg : Kp i g) : Kp i (mCons f g) := fun s d s' h => by
  unfold mCons at h
  obtain ⟨⟨x, s1⟩, e1, h⟩ := Option.bind_eq_some_iff.mp h
  obtain ⟨⟨y, s2⟩, e2, h⟩ := Option.bind_eq_some_iff.mp h
  cases h
  exact (hg _ _ _ e2).trans (hf _ _ _ e1)
theorem kp_tup {i : Nat} {f : DM (List Dt)} (hf : Kp i f) : Kp i (mTup f) := fun s d s' h => by
  unfold mTup at h
  obtain ⟨⟨x, s1⟩, e1, h⟩ := Option.bind_eq_some_iff.mp h
  dsimp only at h
  split at h <;> first | (cases h; exact hf _ _ _ e1) | cases h
theorem kp_app {i : Nat} {F : FD} {f : DM (List Dt)} (hf : Kp i f) : Kp i (mApp F f) := fun s d s' h => by
  unfold mApp at h
  obtain ⟨⟨x, s1⟩, e1, h⟩ := Option.bind_eq_some_iff.mp h
  obtain ⟨⟨y, b⟩, e2, h⟩ := Option.bind_eq_some_iff.mp h
  cases h
  exact (hf s x s1 e1 : s1.sl[i]? = s.sl[i]?)
theorem kp_rev {i : Nat} {f : DM Dt} (hf : Kp i f) : Kp i (wRev f) := fun s d s' h => by
  unfold wRev at h
  obtain ⟨⟨x, s1⟩, e1, h⟩ := Option.bind_eq_some_iff.mp h
  cases x <;> first | (cases h; exact hf _ _ _ e1) | cases h
theorem kp_wlst {i : Nat} {f : DM Dt} (hf : Kp i f) : Kp i (wLst f) := fun s d s' h => by
  unfold wLst at h
  obtain ⟨⟨x, s1⟩, e1, h⟩ := Option.bind_eq_some_iff.mp h
  cases x <;> first | (cases h; exact hf _ _ _ e1) | cases h
theorem kp_comp {i : Nat} {is : List Nat} {f : DM (List Dt)} {h : Dt → Sta → Option Sta} {t : DM Bool} {e : DM Dt} (hf : Kp i f) : Kp i (mComp is f h t e) := fun s d s' k => by
  unfold mComp at k
  obtain ⟨⟨x, s1⟩, e1, k⟩ := Option.bind_eq_some_iff.mp k
  dsimp only at k
  split at k
  · obtain ⟨z, e2, k⟩ := Option.bind_eq_some_iff.mp k
    cases k
    exact (hf s x s1 e1 : s1.sl[i]? = s.sl[i]?)
  · cases k
theorem kp_ix {i : Nat} {g : Dt → Dt → Option Dt} {f1 f2 : DM Dt} (h1 : Kp i f1) (h2 : Kp i f2) : Kp i (m2 g f1 f2) := fun s d s' h => by
  unfold m2 at h
  obtain ⟨⟨x, s1⟩, e1, h⟩ := Option.bind_eq_some_iff.mp h
  obtain ⟨⟨y, s2⟩, e2, h⟩ := Option.bind_eq_some_iff.mp h
  obtain ⟨z, e3, h⟩ := Option.bind_eq_some_iff.mp h
  cases h
  exact (h2 _ _ _ e2).trans (h1 _ _ _ e1)
end DL
set_option maxHeartbeats 4000000
namespace DX
open PySem PySem.Spec PySem.Calls PyProof.Rows PySem.W L2
open Builtin Builtin.ObjectAttr
section
variable {prog : Program} {w : World} {A : Around}
variable {R : Result → Shared → Prop} {hp : Heap}
variable {g : Array GenState} {d : Drawn} {t : Nat} {os : OsState}
variable {K : Frag} {name : Str} {tk : Tok} {v : Value} {x C : Addr}
variable {fv : Array Value} {cd : ClassData} {B : String} {bmB : List Value}
theorem takes_none (ha : findIn K (.ref C) name = some none) : takerIn K C name = some none := by
  unfold takerIn
  rw [ha]
  rfl
theorem osaG_new (SF : StoreFacts B bmB "object.__setattr__" "object") (X : K.In hp)
    (hx : hp.get? x = some { cls := .ref C, data := .fields fv }) (hcd : clsIn K C = some cd)
    (ho : excOver K C bmB = true) (hh : cd.hasDict = true) (ha : findIn K (.ref C) name = some none)
    (hq : ∀ h' tk' dx, (∀ b o, b ≠ x → hp.get? b = some o → h'.get? b = some o) → hp.objs.size ≤ dx → dx ≠ x →
      h'.get? x = some { cls := .ref C, dict := some dx, data := .fields fv } →
      h'.Ns1 dx (fun y => if y = name then some v else none) → R (.ok (.ret .none)) ⟨h', g, d, tk', os⟩) :
    codeAny (model prog w) A (.call (.builtin "object.__setattr__") ⟨[.ref x, .str name tk, v], []⟩) R ⟨hp, g, d, t, os⟩ := by
  have J : InstAt hp x { cls := .ref C, data := .fields fv } C none := ⟨hx, rfl, rfl, trivial⟩
  have ne1 : x ≠ hp.objs.size := Nat.ne_of_lt (Heap.lt_size hx)
  have LC : Looks (model prog w) hp (classData C) cd := looks_clsIn X hcd
  refine osa_openX SF X J ho (takes_none ha) fun b => ?_
  dsimp only
  obtain ⟨nm, bs, mro, ns, qn, hd, sn, sb, ab, col, del⟩ := cd
  dsimp only at hh
  subst hh
  unfold storeInOwnDict
  unfold ownDictForStores
  repeat (first
    | with_reducible refine PX.store_in_new ?_ ?_
    | with_reducible refine wpAny_loadPart_at hx ?_
    | with_reducible refine LC.at ?_
    | wp_step)
  · exact ⟨_, #[], _,
      (Heap.get?_update_ne _ _ _ _ ne1.symm).trans (Heap.get?_push_at rfl rfl),
      rfl, fun e he => absurd he (by simp), fun _ => rfl⟩
  · intro h' tk' hn' hs
    have hx2 := Heap.get?_push_of_some (h := hp) { cls := .type "dict", data := .dict #[] } hx
    refine hq h' tk' hp.objs.size (fun b o hb e => ?_) (Nat.le_refl _) ne1.symm ?_ hn'
    · have h1 := Heap.get?_push_of_some (h := hp) { cls := .type "dict", data := .dict #[] } e
      exact (hs.2 b (Nat.ne_of_lt (Heap.lt_size e))).trans ((Heap.get?_update_ne _ _ _ _ hb).trans h1)
    · exact (hs.2 x ne1).trans (Heap.get?_update_self _ hx2 rfl)
theorem osaG_old {dx : Addr} {m0 : Str → Option Value} {nl : List Str} (SF : StoreFacts B bmB "object.__setattr__" "object") (X : K.In hp)
    (hx : hp.get? x = some { cls := .ref C, dict := some dx, data := .fields fv }) (hns : hp.Ns1 dx m0) (hw : Within m0 nl) (hz : nl.length ≤ 1000)
    (hcd : clsIn K C = some cd) (ho : excOver K C bmB = true) (hh : cd.hasDict = true) (ha : findIn K (.ref C) name = some none)
    (hq : ∀ h' tk', (∀ b o, b ≠ dx → hp.get? b = some o → h'.get? b = some o) →
      h'.Ns1 dx (fun y => if y = name then some v else m0 y) → R (.ok (.ret .none)) ⟨h', g, d, tk', os⟩) :
    codeAny (model prog w) A (.call (.builtin "object.__setattr__") ⟨[.ref x, .str name tk, v], []⟩) R ⟨hp, g, d, t, os⟩ := by
  obtain ⟨oD, esD, epD, hoD, hdD, _⟩ := hns.count hw
  have J : InstAt hp x { cls := .ref C, dict := some dx, data := .fields fv } C (some oD) := ⟨hx, rfl, rfl, hoD⟩
  have LC : Looks (model prog w) hp (classData C) cd := looks_clsIn X hcd
  refine osa_openX SF X J ho (takes_none ha) fun b => ?_
  dsimp only
  obtain ⟨nm, bs, mro, ns, qn, hd, sn, sb, ab, col, del⟩ := cd
  dsimp only at hh
  subst hh
  unfold storeInOwnDict
  unfold ownDictForStores
  repeat (first
    | with_reducible refine OEX.store_in_old hns hw hz ?_
    | with_reducible refine wpAny_loadPart_at hx ?_
    | with_reducible refine LC.at ?_
    | wp_step)
  intro h' tk' hn' hs
  exact hq h' tk' (fun b o hb e => (hs.2 b hb).trans e) hn'
end
structure OexG (K : Frag) (C : Addr) : Prop where
  cls : ∃ B newId initId bmB nm q N bs bm sn sub ab col dd k0 k1 k2 k3 k5, ExcBaseFacts B newId initId bmB ∧ StoreFacts B bmB "object.__setattr__" "object" ∧
    K.lookup C = some (excClassObj nm q C N bs bm true sn sub ab col dd k0 k1 k2 k3 k5 newId) ∧ excTail bmB bm = true
  sa : findIn K (.ref C) "__setattr__" = some (some (.builtin "object.__setattr__"))
  exC : subIn K (.ref C) (.type "BaseException") = some true
  tyC : typeIn K (.ref C) = some (.type "type")
  kC : keepIn K (.ref C) = true
theorem OexG.store {K : Frag} {C : Addr} (T : OexG K C) : ∃ (B : String) (bmB : List Value) (cd : ClassData), StoreFacts B bmB "object.__setattr__" "object" ∧ clsIn K C = some cd ∧ excOver K C bmB = true ∧ cd.hasDict = true := by
  obtain ⟨B, newId, initId, bmB, nm, q, N, bs, bm, sn, sub, ab, col, dd, k0, k1, k2, k3, k5, FB, SF, hC, ht⟩ := T.cls
  have hcl : clsIn K C = some { name := nm, bases := bs, mro := .ref C :: bm, ns := N, qualname := q, hasDict := true, slotNames := sn, subclasses := sub, abstract := ab, collection := col, hasDel := false } := by
    unfold clsIn
    rw [hC] <;> rfl
  refine ⟨B, bmB, _, SF, hcl, ?_, rfl⟩
  unfold excOver
  rw [hcl]
  show (C == C && excTail bmB bm) = true
  rw [ht, beq_self_eq_true]
  rfl
/-- over ValueError -/
theorem OexG.of {K : Frag} {C : Addr} (T : L2.OexC K C) : OexG K C := by
  obtain ⟨nm, q, N, bs, bm, sn, sub, ab, col, dd, k0, k1, k2, k3, k5, hC, hbm⟩ := T.cls
  refine ⟨⟨_, _, _, _, nm, q, N, bs, bm, sn, sub, ab, col, dd, k0, k1, k2, k3, k5, F.excBase_ValueError, F.store_ValueError, hC, ?_⟩, T.sa, T.exC, T.tyC, T.kC⟩
  have key : ∀ l : List Value, PySem.HandSPX.refsVE l = true → excTail [.type "ValueError", .type "Exception", .type "BaseException", .type "object"] l = true := by
    intro l
    induction l with
    | nil => intro e; exact absurd e (by decide)
    | cons a r ih =>
      intro e
      rcases PySem.HandSPX.refsVE_cases (a :: r) e with ⟨c, r', q, h⟩ | q
      · obtain ⟨rfl, rfl⟩ := List.cons.inj q
        exact ih h
      · rw [q]; decide
  exact key bm hbm
section
variable {X : Cx} {pins : List (Addr × Obj)} {σ : L2.St} {H : Hp} {s : Shared} {a C dx : Addr} {f : Str} {y : V} {u : Value}
variable {fs : List (Str × V)} {Q : Unit → Shared → Prop} {E : Value → Shared → Prop} {A : Around}
theorem ostG_new (T : OexG X.K C) (I : Inv X pins σ H s) (e : H a = some (exo a C none)) (hno : findIn X.K (.ref C) f = some none) (ry : RelV y u)
    (h : ∀ dx s', H dx = none → dx ≠ a → Inv X pins σ (upd (upd H dx (exd dx [(f, y)])) a (exo a C (some dx))) s' → Q () s') :
    wpAny (model X.prog X.w) A (setAttr (.ref a) f u) Q E s := by
  obtain ⟨B, bmB, cd, SF, hcl, hov, hdi⟩ := T.store
  obtain ⟨t1, ho⟩ := exo_at I.hok e
  obtain ⟨hp, g, d, t, os⟩ := s
  have J : InstAt hp a { cls := .ref C, dict := none, data := .fields #[.ref t1, .none, .none, .none, .bool false, .none] } C none := ⟨ho, rfl, rfl, trivial⟩
  refine set_plain I.kIn J T.sa ?_
  refine osaG_new SF I.kIn ho hcl hov hdi hno fun h' tk' dx k dn dne hx hn => ?_
  have n1 : H dx = none := I.hok.fresh dn
  have n2 : ∀ {b : Addr} {o : Obj}, hp.get? b = some o → b ≠ dx := fun {b o} q => Nat.ne_of_lt (Nat.lt_of_lt_of_le (Heap.lt_size q) dn)
  have n3 : ∀ {b : Addr}, H b = none → b ≠ a := fun {b} n z => by
    rw [z, e] at n
    cases n
  have U : Un X.fs [] H (upd (upd H dx (exd dx [(f, y)])) a (exo a C (some dx))) hp h' := by
    refine ⟨fun b o q n _ _ => k b o (n3 n) q, fun b o q n _ _ => ⟨o.slots, k b o (n3 n) q⟩, fun b o q n _ => ?_, fun b o q _ => ?_, fun b xs q => ?_, fun b o v q => ?_, fun b ps q => ⟨#[], ?_⟩⟩
    · rw [upd_ne (n3 n), upd_ne (n2 q)]; exact n
    · by_cases hb : b = a
      · exact ⟨_, by rw [hb]; exact hx⟩
      · exact ⟨o, k b o hb q⟩
    · rw [upd_ne (at_ne e q exo_tup), upd_ne (ne_of_none q n1)]; exact q
    · rw [upd_ne (at_ne e q exo_frz), upd_ne (ne_of_none q n1)]; exact q
    · rw [upd_ne (at_ne e q exo_tbl), upd_ne (ne_of_none q n1), q]; simp
  refine h dx _ n1 dne (I.un (t' := tk') U fun b o q => ?_)
  by_cases hb : b = a
  · subst hb
    rw [upd_same] at q
    cases q
    exact exo_ok hx
  rw [upd_ne hb] at q
  by_cases hd : b = dx
  · subst hd
    rw [upd_same] at q
    cases q
    exact exd_ok hn (relO_put (fs := []) ry fun g => True.intro)
  rw [upd_ne hd] at q
  refine (I.hok b o q).stay (fun c v hc z => k c v ?_ z) (fun c hc => ?_) (fun c xs hc => ?_)
  · rcases hc with hc | hc
    · rw [hc]
      exact hb
    · exact at_ne e hc exo_own
  · rw [upd_ne (at_ne e hc exo_own), upd_ne (ne_of_none hc n1)]; exact hc
  · rw [upd_ne (at_ne e hc exo_tup), upd_ne (ne_of_none hc n1)]; exact hc
theorem ostG_old (T : OexG X.K C) (I : Inv X pins σ H s) (e : H a = some (exo a C (some dx))) (ed : H dx = some (exd dx fs)) (hl : fs.length ≤ 900) (hno : findIn X.K (.ref C) f = some none) (ry : RelV y u)
    (h : ∀ s', Inv X pins σ (upd H dx (exd dx ((f, y) :: fs))) s' → Q () s') : wpAny (model X.prog X.w) A (setAttr (.ref a) f u) Q E s := by
  obtain ⟨B, bmB, cd, SF, hcl, hov, hdi⟩ := T.store
  obtain ⟨t1, ho⟩ := exo_at I.hok e
  obtain ⟨mA, hns, rel⟩ := exd_at I.hok ed
  have hw := within_of rel
  obtain ⟨hp, g, d, t, os⟩ := s
  obtain ⟨oD, _, _, hoD, _, _⟩ := hns.count hw
  have J : InstAt hp a { cls := .ref C, dict := some dx, data := .fields #[.ref t1, .none, .none, .none, .bool false, .none] } C (some oD) := ⟨ho, rfl, rfl, hoD⟩
  refine set_plain I.kIn J T.sa ?_
  refine osaG_old SF I.kIn ho hns hw (by rw [List.length_map]; omega) hcl hov hdi hno fun h' tk' k hn => ?_
  have hd : ∃ o, h'.get? dx = some o := by
    obtain ⟨o, _, _, e', _⟩ := hn
    exact ⟨o, e'⟩
  refine h _ (I.write (t' := tk') (x := dx) (e := dx) (o := exd dx ((f, y) :: fs)) ?_ (.inl rfl) k hd (exd_ok hn (relO_put ry rel)))
  rw [ed]
  exact True.intro
end
/-- self.f = e -/
def tOstG (K : Frag) (f : Str) (to te : TE) : TS := fun D σ H => te σ H fun y H1 => to σ H1 fun x H2 => ∃ a C : Addr, x = .ref a ∧ OexG K C ∧ findIn K (.ref C) f = some none ∧
  ((H2 a = some (exo a C none) ∧ ∀ dx, H2 dx = none → dx ≠ a → D.nx σ (upd (upd H2 dx (exd dx [(f, y)])) a (exo a C (some dx)))) ∨
    ∃ (dx : Addr) (fs : List (Str × V)), H2 a = some (exo a C (some dx)) ∧ H2 dx = some (exd dx fs) ∧ fs.length ≤ 900 ∧ D.nx σ (upd H2 dx (exd dx ((f, y) :: fs))))
theorem ps_ostG {X : Cx} {o e : Expr} {to te : TE} {f : Str} {p' pos : Pos} (ho : PE X o to) (he : PE X e te) (hs : swapsWith e (some (.Attribute o f p')) pos.line X.env = pure false := by rfl) :
    PS X (.Assign [.Attribute o f p'] e pos) (tOstG X.K f to te) := by
  refine ⟨fun pins s σ H D I h => ?_⟩
  refine plainObj_wpAny_Assign_Attribute (thn (he.run pins s σ H _ I h) fun v s1 hh => ?_) hs
  obtain ⟨y, H1, I1, r1, q1⟩ := hh
  refine thn (ho.run pins s1 σ H1 _ I1 q1) fun u s2 hh => ?_
  obtain ⟨x, H2, I2, r2, a, C, ex, T, hno, q⟩ := hh
  subst ex
  obtain rfl : u = Value.ref a := r2
  rcases q with ⟨ea, q⟩ | ⟨dx, fs, ea, ed, hl, q⟩
  · exact ostG_new T I2 ea hno r1 fun dx s' n ne J => ⟨σ, _, J, q dx n ne⟩
  · exact ostG_old T I2 ea ed hl hno r1 fun s' J => ⟨σ, _, J, q⟩
/-- the same, raised -/
def tRsG (C : Addr) (sp : Sp) (ta : TA) : L2.St → Hp → XK → Prop := fun σ H Q => ta σ H fun vs H1 => vs.length ≤ 1000 ∧ ∀ a, H1 a = none → sp (.ref a :: vs) (upd H1 a (exo a C none))
  (fun v H2 => v = .non ∧ ∃ (d : Addr) (fs : List (Str × V)), H2 a = some (exo a C (some d)) ∧ H2 d = some (exd d fs) ∧ H1 d = none ∧ Q (.ref C) (some d) (upd (del H2 a) d (.xd fs))) (fun _ _ _ => False)
section
variable {X : Cx}
/-- the call itself, its arguments read -/
theorem call_errG {CX : CXT} {C fI : Addr} {k : Nat} {fd : FuncData} {ps : List Str} {sp : Sp} {pins : List (Addr × Obj)} {σ : L2.St} {H1 : Hp} {s1 : Shared} {us : List Value} {vs : List V} {QQ : Addr → VK} {Z : Value → Shared → Prop}
    (T : OexG X.K C) (iC : findIn X.K (.ref C) "__init__" = some (some (.ref fI))) (tI : typeIn X.K (.ref fI) = some (.type "function")) (F1 : FnOk X.prog X.w X.K X.mg X.base CX k fI fd ps sp) (hr : Room (k + 1) X.A) (hb : L2.Binds X.K fd ps [])
    (hx : Passes CX X (fun _ _ _ => False)) (I1 : Inv X pins σ H1 s1) (r1 : Vals vs us) (hz : vs.length ≤ 1000)
    (q : ∀ a, H1 a = none → sp (.ref a :: vs) (upd H1 a (exo a C none)) (QQ a) (fun _ _ _ => False))
    (qz : ∀ a v H2, H1 a = none → s1.heap.objs.size ≤ a → QQ a v H2 → v = .non ∧ ∀ hp2 h2 g2 d2 t2, (∀ b o, s1.heap.get? b = some o → hp2.get? b = some o) →
      Un (frs X.stack) [] (upd H1 a (exo a C none)) H2 hp2 h2 → HOk X.prog X.w H2 h2 → AllBare g2 → Inv X pins σ (upd H1 a (exo a C none)) { s1 with heap := hp2 } → Z (.ref a) ⟨h2, g2, d2, t2, s1.os⟩) :
    wpAny (model X.prog X.w) X.A (call (.ref C) us) Z X.xe s1 := by
  obtain ⟨B, newId, initId, bmB, nm, qn, N, bs, bm, sn, sub, ab, col, dd, k0, k1, k2, k3, k5, FB, SF, hC, ht⟩ := T.cls
  obtain ⟨hp, g, dr, tk, os⟩ := s1
  let e : Addr := hp.objs.size + 1
  have se : hp.objs.size ≤ e := Nat.le_succ _
  have ne : H1 e = none := I1.hok.fresh se
  have hq := q e ne
  have grow : ∀ b o, hp.get? b = some o → ((hp.push (kdv_tup us)).push (PySem.HandSPX.excO C hp.objs.size)).get? b = some o := fun b o z => Heap.get?_push_of_some _ (Heap.get?_push_of_some _ z)
  have at_e : ((hp.push (kdv_tup us)).push (PySem.HandSPX.excO C hp.objs.size)).get? (hp.objs.size + 1) = some (PySem.HandSPX.excO C hp.objs.size) := by
    heap_get
  have I2 : Inv X pins σ (upd H1 e (exo e C none)) ⟨(hp.push (kdv_tup us)).push (PySem.HandSPX.excO C hp.objs.size), g, dr, tk, os⟩ :=
    I1.laid (t' := tk) (a := e) (o := exo e C none) grow se (exo_ok at_e)
  have r2 : Vals (V.ref e :: vs) (Value.ref e :: us) := .cons rfl r1
  have hl : (Value.ref e :: us).length = ps.length := by
    have z := r2.length
    rw [F1.len _ _ _ _ hq] at z
    exact z.symm
  have hus : us.length ≤ sizeLine := by
    rw [← Paired.length r1, sizeLine_eq]
    omega
  have hT : ∀ Y : String, bm.contains (.type Y) = bmB.contains (.type Y) := fun Y => excTail_contains Y bm ht
  refine wpAny_call (PySem.HandSPX.call_own FB hT (I1.kIn _ _ hC) (looks_findIn I1.kIn iC) (fun self => bind_fn I1.kIn self tI) hus ?_)
  have bb := hb _ (Value.ref e :: us) I2.kIn (by rw [List.append_nil]; exact hl)
  refine codeAny_mono (F1.run _ X.stack _ _ ⟨Value.ref e :: us, []⟩ (Value.ref e :: us) _ _ (fun _ _ _ => False) (hr.make C us []) (I2.env0.make C us []) (by rw [List.append_nil] at bb; exact bb) r2 hq) fun r s' z => ?_
  cases r with
  | error er => exact hx pins σ _ _ er s' I2 z
  | ok fl =>
    cases fl with
    | ret u =>
      obtain ⟨v, H2, os2, bare2, un2, hok2, rv, qv⟩ := z
      obtain ⟨ev, fin⟩ := qz e v H2 ne se qv
      subst ev
      obtain ⟨h2, g2, d2, t2, os'⟩ := s'
      have os2' : os' = os := os2
      subst os2'
      exact ⟨rv, fin _ h2 g2 d2 t2 grow un2 hok2 bare2 I2⟩
    | next => exact False.elim z
    | brk => exact False.elim z
    | cont => exact False.elim z
end
section
variable {X : Cx} {CX : CXT} {C fI : Addr} {k : Nat} {fd : FuncData} {ps : List Str} {sp : Sp} {x : Str} {e : Expr} {es : List Expr} {ta : TA} {p pos : Pos}
theorem pmk_errG (T : OexG X.K C) (iC : findIn X.K (.ref C) "__init__" = some (some (.ref fI))) (tI : typeIn X.K (.ref fI) = some (.type "function")) (F1 : FnOk X.prog X.w X.K X.mg X.base CX k fI fd ps sp) (hr : Room (k + 1) X.A) (hb : L2.Binds X.K fd ps [])
    (hx : Passes CX X (fun _ _ _ => False)) (hg : Gl X x) (hm : X.mg x = some (.ref C)) (ha : PA X (e :: es) ta) (hdb : (x == ("__debug__" : Str)) = false := by decide)
    (he : starEach (e :: es) X.env = (false, eval e X.env) :: starEach es X.env := by rfl) (hpl : (backTo pos (starEach es X.env)).any (·.1) = false := by rfl) : PMk X (.Call (.Name x p) (e :: es) [] pos) (tRsG C sp ta) := by
  intro pins s σ H Q I h
  refine wpAny_Call_Name_kw (ld_glob I hg hm ?_ hdb)
  refine callWith_K (h₀ := X.base) I.ok.mod.kin T.kC (thn (ha.run pos pins s σ H _ I h) fun us s1 z => ?_) he hpl
  obtain ⟨vs, H1, I1, r1, hz, q1⟩ := z
  refine ⟨I1.kIn, call_errG T iC tI F1 hr hb hx I1 r1 hz (QQ := fun a v H2 => v = .non ∧ ∃ (d : Addr) (fs : List (Str × V)), H2 a = some (exo a C (some d)) ∧ H2 d = some (exd d fs) ∧ H1 d = none ∧ Q (.ref C) (some d) (upd (del H2 a) d (.xd fs))) q1 fun a v H2 na sa z => ?_⟩
  obtain ⟨ev, d, fs, ea, ed, hd1, q⟩ := z
  exact ⟨ev, fun hp2 h2 g2 d2 t2 kp un hok hb2 I2 => mk_end (raises_own T.exC T.tyC) I1 sa kp un hok rfl hb2 ea ed hd1 q⟩
theorem pmk_errG0 (T : OexG X.K C) (iC : findIn X.K (.ref C) "__init__" = some (some (.ref fI))) (tI : typeIn X.K (.ref fI) = some (.type "function")) (F1 : FnOk X.prog X.w X.K X.mg X.base CX k fI fd ps sp) (hr : Room (k + 1) X.A) (hb : L2.Binds X.K fd ps [])
    (hx : Passes CX X (fun _ _ _ => False)) (hg : Gl X x) (hm : X.mg x = some (.ref C)) (hdb : (x == ("__debug__" : Str)) = false := by decide) : PMk X (.Call (.Name x p) [] [] pos) (tRsG C sp tNil) := by
  intro pins s σ H Q I h
  refine wpAny_Call_Name_kw (ld_glob I hg hm ?_ hdb)
  refine callWith_K0 I.kIn T.kC ?_
  show wpAny _ _ (call (.ref C) []) _ _ _
  obtain ⟨hz, q1⟩ := h
  refine call_errG T iC tI F1 hr hb hx I .nil hz (QQ := fun a v H2 => v = .non ∧ ∃ (d : Addr) (fs : List (Str × V)), H2 a = some (exo a C (some d)) ∧ H2 d = some (exd d fs) ∧ H d = none ∧ Q (.ref C) (some d) (upd (del H2 a) d (.xd fs))) q1 fun a v H2 na sa z => ?_
  obtain ⟨ev, d, fs, ea, ed, hd1, q⟩ := z
  exact ⟨ev, fun hp2 h2 g2 d2 t2 kp un hok hb2 I2 => mk_end (raises_own T.exC T.tyC) I sa kp un hok rfl hb2 ea ed hd1 q⟩
end
end DX
set_option maxHeartbeats 4000000
namespace DX
open PySem PySem.Spec PySem.Calls PyProof.Rows PySem.W
variable [DL.Tabs] [DL.Me]
omit [DL.Me] in
/-- the name that a class's object bears -/
def nameIn (K : Frag) (C : Addr) : Option Str := match K.lookup C with
  | some ⟨_, _, .cls _, sl⟩ => match (sl[2]? : Option (Option Value)) with
    | some (some (Value.str x _)) => some x
    | _ => none
  | _ => none
theorem name_slot {K : Frag} {C : Addr} {x : Str} (e : nameIn K C = some x) : ∃ (o : Obj) (tk : Tok), K.lookup C = some o ∧ o.slots[2]? = some (some (.str x tk)) := by
  unfold nameIn at e
  split at e
  · rename_i c d cd sl ho
    split at e
    · rename_i y tk hs
      cases e
      exact ⟨_, tk, ho, hs⟩
    · cases e
  · cases e
section
variable {prog : Program} {w : World} {A : Around} {E : Value → Shared → Prop} {s : Shared} {K : Frag} {R : Result → Shared → Prop} {C a : Addr} {x : Str}
theorem cname_code {tp : Value} (KX : K.In s.heap) (ht : typeIn K (.ref C) = some (.type "type")) (hx : nameIn K C = some x) (h : ∀ tk, R (.ok (.ret (.str x tk))) s) :
    codeAny (model prog w) A (.call (.builtin "getset_descriptor.__get__") ⟨[.builtin "type.__name__", .ref C, tp], []⟩) R s := by
  obtain ⟨o, tk, ho, hsl⟩ := name_slot hx
  have hC := KX _ _ ho
  obtain ⟨hp, gs, dr, tt, so⟩ := s
  have La : Looks (model prog w) hp (typeOf (.ref C)) (.type "type") := looks_typeIn KX ht
  have Lb : Looks (model prog w) hp (isSubtype (.type "type") (.type "type")) true := Looks.of_pure (by rw [isSubtype_type]; kernel_rfl)
  refine codeAny_call_builtin KF.slot_gs.plain KF.entry_gs (KF.slot_gs.check _ _ _ _ _ _ _ _ ktyn_type (KF.args_gs _ _ _) ?_)
  unfold Builtin.«getset_descriptor.__get__» Builtin.Getset_descriptor.descrGet
  rw [dga_obj]
  refine wpAny_bind ?_
  refine wpAny_pure ?_
  unfold Builtin.Getset_descriptor.descrGetter Builtin.Getset_descriptor.descrCheckInstance Builtin.Getset_descriptor.descrNameAndClass isInstance
  simp only [ktyn_owner]
  repeat lk
  refine ⟨Code.quiet_builtin _ (by decide +kernel), codeAny_builtin ktyn_entry ?_⟩
  unfold Builtin.«type.__name__»
  dsimp only
  unfold Builtin.keptObject
  dsimp only
  unfold slotAt
  refine wpAny_bind ?_
  refine wpAny_bind (wpAny_loadPart hC ?_)
  rw [hsl]
  exact wpAny_pure (wpAny_pure (h tk))
theorem cname_attr {expr : Bool} {Q : Value → Shared → Prop} (KX : K.In s.heap) (hr : readsIn K C (.type "type") = true)
    (hf : findCls K (.ref C) (.type "type") "__name__" = some (.get (.builtin "getset_descriptor.__get__") (.builtin "type.__name__") (.ref C) (.type "type")))
    (hx : nameIn K C = some x) (h : ∀ tk, Q (.str x tk) { s with toks := s.toks + 1 }) : wpAny (model prog w) A (getAttr (.ref C) "__name__" expr) Q E s := by
  have ht : typeIn K (.ref C) = some (.type "type") := by
    simp only [readsIn, Bool.and_eq_true, beq_iff_eq] at hr
    exact hr.1.1.1.2
  refine cls_bind KX hr hf (wpAny_call (cname_code (s := { s with toks := s.toks + 1 }) KX ht hx fun tk => ?_))
  exact handed_on rfl (h tk)
/-- e.__class__, e an instance of an own error class -/
theorem ecls_attr {ox : Obj} {od : Option Obj} {expr : Bool} {Q : Value → Shared → Prop} (T : L2.ExcC K C) (KX : K.In s.heap) (J : InstAt s.heap a ox C od) (hfo : findObj K C od "__class__" = some (.bind (.builtin "getset_descriptor.__get__") (.builtin "object.__class__")))
    (h : Q (.ref C) { s with toks := s.toks + 1 }) : wpAny (model prog w) A (getAttr (.ref a) "__class__" expr) Q E s := by
  obtain ⟨hp, gs, dr, tt, so⟩ := s
  have La := J.type (M := model prog w)
  have Lb := looks_findIn (M := model prog w) KX T.hg
  have Lc := looks_findIn (M := model prog w) KX T.hk
  have Ld := looks_find (M := model prog w) KX J hfo
  have Le : Looks (model prog w) hp (isInstance (.ref a) (.type "BaseException")) true := La.andThen (looks_subIn KX T.hs)
  have z0 : (expr && onTheHeap (Value.builtin "BaseException.__getattribute__")) = false := by cases expr <;> rfl
  have z1 : (onTheHeap (Value.ref C) && Value.builtin "BaseException.__getattribute__" == Value.builtin "object.__getattribute__") = false := by
    rw [show (Value.builtin "BaseException.__getattribute__" == Value.builtin "object.__getattribute__") = false from by decide +kernel]
    rfl
  unfold getAttr getAttrBy
  refine wpAny_bind (wpAny_mkText ?_)
  refine wpAny_holding ?_
  refine wpAny_bind (La.at ?_)
  refine wpAny_bind (Lb.at ?_)
  show wpAny _ _ (if (onTheHeap (Value.ref C) && Value.builtin "BaseException.__getattribute__" == Value.builtin "object.__getattribute__") = true then _ else _) _ _ _
  rw [z1]
  rw [if_neg Bool.false_ne_true]
  unfold getAttrByItsOwn hookBefore
  refine wpAny_bind ?_
  rw [if_pos (show onTheHeap (Value.ref C) = true from rfl)]
  refine Lc.at ?_
  refine wpAny_bind ?_
  refine wpAny_attempt (wpAny_holding ?_)
  unfold callGetattribute
  rw [z0]
  rw [if_neg Bool.false_ne_true]
  unfold boundAndCalled
  rw [PySem.F.excAttr_ValueError.ga.bind (.ref a)]
  refine wpAny_bind ?_
  refine wpAny_pure ?_
  show wpAny _ _ (call (.builtin "BaseException.__getattribute__") [.ref a, .str "__class__" tt]) _ _ _
  refine wpAny_call ?_
  refine codeAny_call_builtin PySem.F.excAttr_ValueError.ga.plain PySem.F.entry_bexc_ga ?_
  refine @check_slot (model prog w) _ _ ⟨hp, gs, dr, tt + 1, so⟩ "BaseException.__getattribute__" "BaseException" "__getattribute__" (.ref a) [.str "__class__" tt] [] _ ?k1 ?k2 Le ?k3 ?_
  case k1 => decide +kernel
  case k2 => decide +kernel
  case k3 => exact PySem.F.args_bexc_ga (.ref a) (.str "__class__" tt)
  unfold Builtin.«object.__getattribute__»
  refine wpAny_bind ?_
  refine wpAny_of_eq (a := ((Value.ref a : Value), [Value.str "__class__" tt])) (by first | rfl | (simp only [slotArgs]; rfl)) ?_
  refine wpAny_bind ?_
  refine wpAny_pure ?_
  refine wpAny_bind (La.at ?_)
  refine wpAny_bind (Ld.at ?_)
  show wpAny _ _ (holding [Value.builtin "object.__class__"] (call (.builtin "getset_descriptor.__get__") [.builtin "object.__class__", .ref a, .ref C]) >>= ret) _ _ _
  refine wpAny_bind (wpAny_holding (wpAny_call (class_get (s := ⟨hp, gs, dr, tt + 1, so⟩) (ox := ox) (od := od) KX J T.hm ?_)))
  refine wpAny_pure ?_
  show wpAny _ _ (handedOut (.ref C)) _ _ _
  rw [handedOut_of (v := .ref C) rfl]
  exact wpAny_pure h
end
omit [DL.Me] in
/-- the fields that errors bear besides their code -/
def errFields : List Str := ["path", "index", "given", "witness", "key", "name", "word", "most", "limit"]
omit [DL.Me] in
def noField (K : Frag) (C : Addr) (f : Str) : Bool := match findIn K (.ref C) f with
  | some none => true
  | _ => false
omit [DL.Me] in
structure ErrC (K : Frag) (C : Addr) (x : Str) : Prop where
  oex : OexG K C
  exc : L2.ExcC K C
  rd : readsIn K C (.type "type") = true
  fc : findCls K (.ref C) (.type "type") "__name__" = some (.get (.builtin "getset_descriptor.__get__") (.builtin "type.__name__") (.ref C) (.type "type"))
  nm : nameIn K C = some x
  noc : findIn K (.ref C) "code" = some none
  nf : (errFields.all fun f => noField K C f) = true
  ns : subIn K (.ref C) (.type "StopIteration") = some false
  ca : ∀ T1 T2 T3 : Addr, nsIn K mainGlobals "TableError" = some (some (.ref T1)) → nsIn K mainGlobals "Missing" = some (some (.ref T2)) → nsIn K mainGlobals "NothingLeft" = some (some (.ref T3)) → exmAny K (.ref C) [.ref T1, .ref T2, .ref T3] = some true
open L2
theorem ErrC.nof {K : Frag} {C : Addr} {x f : Str} (T : ErrC K C x) (h : f ∈ errFields) : findIn K (.ref C) f = some none := by
  have e := List.all_eq_true.mp T.nf f h
  unfold noField at e
  split at e
  · assumption
  · cases e
theorem ErrC.obj {K : Frag} {C : Addr} {x : Str} (T : ErrC K C x) : findObj K C none "__class__" = some (.bind (.builtin "getset_descriptor.__get__") (.builtin "object.__class__")) :=
  findObj_dataN (by
    obtain ⟨cd, hc, _⟩ := any_some T.exc.hd
    rw [hc] <;> rfl) T.exc.ha T.exc.hn T.exc.ht
omit [DL.Me] in
/-- e.__class__.__name__ -/
def tCn (K : Frag) (te : TE) : TE := fun σ H Q => te σ H fun v H1 => ∃ a C x, v = .ref a ∧ H1 a = some (exo a C none) ∧ ErrC K C x ∧ Q (.str x) H1
theorem pe_cname {X : Cx} {e : Expr} {te : TE} {p1 p2 : Pos} (he : PE X e te) (hb1 : attributeBase e "__class__" X.env (eval e X.env) = eval e X.env := by rfl)
    (hb2 : attributeBase (.Attribute e "__class__" p1) "__name__" X.env (eval (.Attribute e "__class__" p1) X.env) = eval (.Attribute e "__class__" p1) X.env := by rfl) :
    PE X (.Attribute (.Attribute e "__class__" p1) "__name__" p2) (tCn X.K te) := by
  refine ⟨fun pins s σ H Q I h => ?_⟩
  refine attr_of hb2 (attr_of hb1 (thn (he.run pins s σ H _ I h) fun u s1 z => ?_))
  obtain ⟨v, H1, I1, r1, a, C, x, ev, ea, T, q⟩ := z
  subst ev
  obtain rfl : u = Value.ref a := r1
  obtain ⟨t1, ho⟩ := exo_at I1.hok ea
  have J : InstAt s1.heap a { cls := .ref C, dict := none, data := .fields #[.ref t1, .none, .none, .none, .bool false, .none] } C none := ⟨ho, rfl, rfl, trivial⟩
  refine ecls_attr T.exc I1.kIn J T.obj ?_
  exact cname_attr (I1.tok _).kIn T.rd T.fc T.nm fun tk => ⟨.str x, H1, (I1.tok _).tok _, ⟨tk, rfl⟩, q⟩
omit [DL.Me] in
def spInit (K : Frag) : Sp := fun vs H Q _ => ∃ a C x, vs = [.ref a] ∧ H a = some (exo a C none) ∧ ErrC K C x ∧ ∀ dx, H dx = none → dx ≠ a → Q .non (upd (upd H dx (exd dx [("code", .str x)])) a (exo a C (some dx)))
section
variable {P : Program} {w : World} {K : Frag} {mg : Str → Option Value} {base : Heap} {CX : CXT}
theorem fn_init0 {k : Nat} {f : Addr} {name qual : Str} {params : Arguments} {scope : Scope} {dV kV doc pm cdv ct oc : Value} {an od : Option Addr} {osl : Array (Option Value)} {N : List Str} {p1 p2 p3 p4 p5 p6 : Pos}
    (lk : K.lookup f = some ⟨oc, od, .func (PySem.W.fnOf name qual params [.Assign [.Attribute (.Name "self" p1) "code" p2] (.Attribute (.Attribute (.Name "self" p3) "__class__" p4) "__name__" p5) p6] scope dV kV doc pm an cdv ct), osl⟩)
    (hcd : codeIn K cdv qual = true) (S : FnScope N ["self"] scope) (hN : N[0]? = some ("self" : Str)) (hv : Vis scope "self") (h0 : ∀ v : V, (L2.start N [v])[0]? = some (some v)) : FnOk P w K mg base CX (k + 1) f (PySem.W.fnOf name qual params [.Assign [.Attribute (.Name "self" p1) "code" p2] (.Attribute (.Attribute (.Name "self" p3) "__class__" p4) "__name__" p5) p6] scope dV kV doc pm an cdv ct) ["self"] (spInit K) := by
  refine fn_of lk hcd S (fun vs H Q E h => ?_) fun A outer s H vs Q E hr h => ?_
  · obtain ⟨a, C, x, e, _⟩ := h
    rw [e]
    rfl
  · obtain ⟨a, C, x, rfl, ea, T, q⟩ := h
    refine ⟨_, pss_one (ps_ostG (pe_var (i := 0) hN hv) (pe_cname (pe_var (i := 0) hN hv))), ?_⟩
    refine ⟨.ref a, h0 _, a, C, x, rfl, ea, T, ?_⟩
    refine ⟨.ref a, h0 _, a, C, rfl, T.oex, T.noc, .inl ⟨ea, fun dx n ne => ?_⟩⟩
    exact q dx n ne
end
end DX
set_option maxHeartbeats 4000000
namespace DX
open PySem PySem.Spec PySem.Calls PyProof.Rows PySem.W L2
variable [DL.Tabs] [DL.Me]
omit [DL.Me] in
/-- the exception's dict bears code alone; H1 is as before but for it -/
def tErr (C : Addr) (x : Str) : L2.St → Hp → XK → Prop := fun _ H Q => ∀ d, H d = none → Q (.ref C) (some d) (upd H d (.xd [("code", .str x)]))
section
variable {X : Cx}
theorem pmk_err0 {CX : CXT} {nm x : Str} {C fI : Addr} {k : Nat} {fd : FuncData} {p pos : Pos} (T : ErrC X.K C nm) (iC : findIn X.K (.ref C) "__init__" = some (some (.ref fI))) (tI : typeIn X.K (.ref fI) = some (.type "function"))
    (F1 : FnOk X.prog X.w X.K X.mg X.base CX k fI fd ["self"] (spInit X.K)) (hr : Room (k + 1) X.A) (hb : Binds X.K fd ["self"] []) (hx : Passes CX X (fun _ _ _ => False)) (hg : Gl X x) (hm : X.mg x = some (.ref C))
    (hdb : (x == ("__debug__" : Str)) = false := by decide) : PMk X (.Call (.Name x p) [] [] pos) (tErr C nm) := by
  intro pins s σ H Q I h
  refine pmk_errG0 (p := p) (pos := pos) T.oex iC tI F1 hr hb hx hg hm hdb pins s σ H Q I ?_
  refine ⟨Nat.zero_le _, fun a na => ⟨a, C, nm, rfl, upd_same, T, fun dx n nd => ?_⟩⟩
  rw [upd_ne nd] at n
  refine ⟨rfl, dx, [("code", .str nm)], upd_same, by rw [upd_ne nd, upd_same], n, ?_⟩
  have eq : upd (del (upd (upd (upd H a (exo a C none)) dx (exd dx [("code", .str nm)])) a (exo a C (some dx))) a) dx (.xd [("code", .str nm)]) = upd H dx (.xd [("code", .str nm)]) := by
    funext b
    by_cases hbd : b = dx
    · rw [hbd, upd_same, upd_same]
    · rw [upd_ne hbd, upd_ne hbd]
      by_cases hbe : b = a
      · rw [hbe, del_same, na]
      · rw [del_ne hbe, upd_ne hbe, upd_ne hbd, upd_ne hbe]
  rw [eq]
  exact h dx n
end
end DX
set_option maxHeartbeats 4000000
namespace DX
open PySem PySem.Spec PySem.Calls PyProof.Rows PySem.W L2
variable [DL.Tabs] [DL.Me]
theorem fly_push {B h : Heap} {l : List Env} {a : Addr} {Z : Obj → Prop} (o : Obj) (x : HandSPX.FlyingZ B l a Z h) : HandSPX.FlyingZ B l a Z (h.push o) := by
  obtain ⟨y1, y2, y3, oe, vs, T, oT, ts, y4, y5, y6, y7, y8, y9, y10, y11, y12⟩ := x
  refine ⟨fun b u z => Heap.get?_push_of_some _ (y1 b u z), y2, Heap.FunFrames.of_keeps (fun b u z _ => ⟨u, Heap.get?_push_of_some _ z, rfl⟩) y3, oe, vs, T, oT, ts, Heap.get?_push_of_some _ y4, y5, y6, y7, y8, y9, Heap.get?_push_of_some _ y10, y11, y12⟩
omit [DL.Me] in
/-- except (C1, C2, C3) as n, every exception of the body being one of them; slot i is n's -/
def wAs3 (K : Frag) (m : Nat) (C1 C2 C3 : Addr) (i : Nat) (ts : Addr → Value → Option Addr → TS) (D : Ends) : WX := fun cls d σ H => exmAny K cls [.ref C1, .ref C2, .ref C3] = some true ∧
  ∀ a, H a = none → σ.length = m → ts a cls d { nx := fun σ' H' => D.nx (σ'.set i none) H', rt := D.rt, bk := fun σ' H' => D.bk (σ'.set i none) H', ct := fun σ' H' => D.ct (σ'.set i none) H' } (σ.set i (some (.ref a))) H
section
variable {X : Cx} {x1 x2 x3 n : Str} {C1 C2 C3 : Addr} {i kk : Nat} {body suite : List Stmt} {b0 : Stmt} {q1 q2 q3 q4 q5 q6 : Pos} {tb : WX → TS} {ts : Addr → Value → Option Addr → TS}
theorem ps_try_as3 (hs : X.stack = X.env :: X.outer) (hf : X.env.frame = some X.env.locals) (hN : X.N.Nodup) (hi : X.N[i]? = some n) (hln : X.env.kindOf n = some .local)
    (g1 : Gl X x1) (m1 : X.mg x1 = some (.ref C1)) (d1 : (x1 == ("__debug__" : Str)) = false) (g2 : Gl X x2) (m2 : X.mg x2 = some (.ref C2)) (d2 : (x2 == ("__debug__" : Str)) = false) (g3 : Gl X x3) (m3 : X.mg x3 = some (.ref C3)) (d3 : (x3 == ("__debug__" : Str)) = false)
    (hb : ∀ (W : WX) (pn : List (Addr × Obj)) (xe : Value → Shared → Prop), Takes (X.tr pn xe) W → PassesOwn (model X.prog X.w) X.A X.env xe → PSs (X.tr pn xe) body (tb W))
    (hsu : ∀ (a : Addr) (oe : Obj) (cls : Value) (d : Option Addr) (pn : List (Addr × Obj)), Zc cls d oe → (∃ vs, oe.data = .fields vs) → PSs (X.suite a ((a, oe) :: pn)) (b0 :: suite) (ts a cls d)) :
    PS X (.Try body [.ExceptHandler (some (.Tuple [.Name x1 q1, .Name x2 q2, .Name x3 q3] kk q4)) (some n) (b0 :: suite) q5] [] [] q6) (fun D σ H => tb (wAs3 X.K X.N.length C1 C2 C3 i ts D) D σ H) := by
  refine ⟨fun pp s σ H D I hyp => ?_⟩
  have okX := I.ok
  have frX : X.A.frames = some (X.env :: X.outer) := by rw [okX.frames, hs]
  have locN : Loc X.env.scope n := .inl hln
  refine wpAny_Try_except ?_
  refine wpAny_mono ((hb (wAs3 X.K X.N.length C1 C2 C3 i ts D) (X.pn ++ pp) (fun e sa => wpAny (model X.prog X.w) X.A (noteFrame e X.env) (fun _ sb => wpAny (model X.prog X.w) X.A (setFlight e none) (fun _ sc =>
    wpAny (model X.prog X.w) X.A (handleBy e X.env [.ExceptHandler (some (.Tuple [.Name x1 q1, .Name x2 q2, .Name x3 q3] kk q4)) (some n) (b0 :: suite) q5]) (SP X pp D) X.xe sc) X.xe sb) X.xe sa) (fun u s' xx => ?_) PassesOwn.looking).run [] s σ H D (I.toTry _) hyp) (fun fl sa z => ?_) (fun e sa z => z)
  · obtain ⟨a, B, sI, pins', σ', H', cls, d, rfl, J', nb, up, sky, na, os, ag, em, yes⟩ := xx
    have J : Inv X pp σ' H' sI := J'.ofTry okX
    have sky' : Sky B (X.env :: X.outer) a (Zc cls d) X.env.locals s'.heap := by rw [← hs]; exact sky
    show wpAny (model X.prog X.w) X.A (noteFrame (.ref a) X.env) _ _ _
    refine Sky.land Zc.steady frX hf sky' fun ha fa ua => ?_
    have Ja : Inv X pp σ' H' { s' with heap := ha } := J.landed nb fa.1 (up.trans ua) os ag
    obtain ⟨oa, va, ga, za, da⟩ := fa.there
    have out : a ∉ frs (X.env :: X.outer) := fun hm => by
      obtain ⟨_, o', e', hnf⟩ := fa.2.2.1.mem hm
      rw [ga] at e'
      cases e'
      exact hnf _ da
    have nL : a ≠ X.env.locals := fun z => out (List.mem_filterMap.mpr ⟨X.env, List.mem_cons_self, by rw [hf, z]⟩)
    have nF : a ∉ X.fs := fun hm => by
      obtain ⟨ev, h1, h2⟩ := List.mem_filterMap.mp hm
      exact out (List.mem_filterMap.mpr ⟨ev, List.mem_cons_of_mem _ h1, h2⟩)
    have Sa := Ja.suite ga da na nL nF
    refine wpAny_handleBy_cons (codeAny_handlers_test ?_) (by intro q; cases q)
    have key : wpAny (model X.prog X.w) (X.suite a ((a, oa) :: (X.pn ++ pp))).A (eval (.Tuple [.Name x1 q1, .Name x2 q2, .Name x3 q3] kk q4) X.env) (fun v sd => v = .ref ha.objs.size ∧ sd = { s' with heap := ha.push { cls := .type "tuple", data := .seq [Value.ref C1, .ref C2, .ref C3].toArray } }) (fun _ _ => False) { s' with heap := ha } := by
      refine wpAny_Tuple_spliced ?_
      show wpAny _ _ (spliced [(false, eval (.Name x1 q1) X.env), (false, eval (.Name x2 q2) X.env), (false, eval (.Name x3 q3) X.env)]) _ _ _
      refine spliced_cons (ld_glob (X := X.suite a ((a, oa) :: (X.pn ++ pp))) Sa g1 m1 ?_ d1)
      refine spliced_cons (ld_glob (X := X.suite a ((a, oa) :: (X.pn ++ pp))) Sa g2 m2 ?_ d2)
      refine spliced_cons (ld_glob (X := X.suite a ((a, oa) :: (X.pn ++ pp))) Sa g3 m3 ?_ d3)
      exact spliced_nil ⟨by show 3 ≤ sizeLine; rw [sizeLine_eq]; omega, rfl, rfl⟩
    refine wpAny_mono key (fun v sd hv => ?_) (fun _ _ z => z.elim)
    obtain ⟨hv1, hv2⟩ := hv
    subst hv1
    subst hv2
    have fb := fly_push { cls := .type "tuple", data := .seq [Value.ref C1, .ref C2, .ref C3].toArray } fa
    have ub : ha.UpToSlots (ha.push { cls := .type "tuple", data := .seq [Value.ref C1, .ref C2, .ref C3].toArray }) := Heap.UpToSlots.of_keeps fun b o z => Heap.get?_push_of_some _ z
    have gt : (ha.push { cls := .type "tuple", data := .seq [Value.ref C1, .ref C2, .ref C3].toArray }).get? ha.objs.size = some { cls := .type "tuple", data := .seq [Value.ref C1, .ref C2, .ref C3].toArray } := Heap.get?_push_size _ rfl
    generalize ha.push { cls := .type "tuple", data := .seq [Value.ref C1, .ref C2, .ref C3].toArray } = hc at fb ub gt
    have Jb : Inv X pp σ' H' { s' with heap := hc } := J.landed nb fb.1 ((up.trans ua).trans ub) os ag
    obtain ⟨ob, vb, gb, zb, db⟩ := fb.there
    have LT : Looks (model X.prog X.w) hc (typeOf (.ref a)) cls := fun A Q E s k q => wpAny_typeOf_ref (k _ _ gb) (by rw [zb.1]; exact q)
    refine (exm_tup3 (M := model X.prog X.w) Jb.kIn LT gt em).here ?_
    refine codeAny_handlers_suite_as ?_
    refine HandSPX.lands_againZ fb fun hd fd ud => ?_
    have Jd : Inv X pp σ' H' { s' with heap := hd } := J.landed nb fd.1 (((up.trans ua).trans ub).trans ud) os ag
    obtain ⟨od, vd, gd, zd, dd⟩ := fd.there
    have Sd := Jd.suite gd dd na nL nF
    refine store_ok (X := X.suite a ((a, od) :: (X.pn ++ pp))) (v := .ref a) Sd hN hi locN rfl (fun se Se => ?_) (.inr hln)
    refine wpAny_mono ((hsu a od cls d (X.pn ++ pp) zd ⟨_, dd⟩).run [] se _ H' _ Se (yes a na J.len)) (fun fl sg z => ?_) (fun _ _ z => False.elim z)
    have bye : ∀ {σ6 : L2.St} {H6 : Hp} {Q : Shared → Prop}, Inv (X.suite a ((a, od) :: (X.pn ++ pp))) [] σ6 H6 sg → (∀ sh, Inv X pp (σ6.set i none) H6 sh → Q sh) →
        wpAny (model X.prog X.w) X.A (do bindName X.env n .none; unbindBehindTheSuite X.env n q5) (fun _ sh => Q sh) X.xe sg := fun {σ6 H6 Q} S6 hq => gone_ok (S6.unsuite okX) hN hi hln hq
    cases fl with
    | next =>
      obtain ⟨σ6, H6, S6, w6⟩ := z
      exact bye S6 fun sh Jh => ⟨_, _, Jh, w6⟩
    | brk =>
      obtain ⟨σ6, H6, S6, w6⟩ := z
      exact bye S6 fun sh Jh => ⟨_, _, Jh, w6⟩
    | cont =>
      obtain ⟨σ6, H6, S6, w6⟩ := z
      exact bye S6 fun sh Jh => ⟨_, _, Jh, w6⟩
    | ret u =>
      obtain ⟨v6, σ6, H6, S6, r6, w6⟩ := z
      exact bye S6 fun sh Jh => ⟨_, _, _, Jh, r6, w6⟩
  · cases fl with
    | next =>
      obtain ⟨σ6, H6, J6, w6⟩ := z
      exact wpAny_execs_nil ⟨σ6, H6, J6.ofTry okX, w6⟩
    | brk =>
      obtain ⟨σ6, H6, J6, w6⟩ := z
      exact ⟨σ6, H6, J6.ofTry okX, w6⟩
    | cont =>
      obtain ⟨σ6, H6, J6, w6⟩ := z
      exact ⟨σ6, H6, J6.ofTry okX, w6⟩
    | ret u =>
      obtain ⟨v6, σ6, H6, J6, r6, w6⟩ := z
      exact ⟨v6, σ6, H6, J6.ofTry okX, r6, w6⟩
end
end DX
set_option maxHeartbeats 4000000
namespace DX
open PySem PySem.Spec PySem.Calls PyProof.Rows PySem.W L2
variable [DL.Tabs] [DL.Me]
open L2H (RoomH PinOk cxH inv_startH)
omit [DL.Me] in
structure FnS (P : Program) (w : World) (K : Frag) (mg : Str → Option Value) (base : Heap) (k : Nat) (f : Addr) (fd : FuncData) (ps : List Str) (sp : Addr × Obj → Sp) : Prop where
  len : ∀ p vs H Q E, sp p vs H Q E → vs.length = ps.length
  run : ∀ (A : Around) (outer : List Env) (s : Shared) (H : Hp) (args : Args) (us : List Value) (vs : List V) (Q : VK) (p : Addr × Obj), RoomH k A → PinOk outer H s p → Env0 P w K mg base A outer s H →
    BindsTo s fd args (ps.zip us) → Vals vs us → sp p vs H Q E0 → codeAny (model P w) A (.call (.ref f) args) (CR CX0 outer P w H s Q E0) s
theorem fn_suite {P : Program} {w : World} {K : Frag} {mg : Str → Option Value} {base : Heap} {k : Nat} {f : Addr} {name qual : Str} {params : Arguments} {body : List Stmt} {scope : Scope} {dV kV doc pm cdv ct oc : Value} {an od : Option Addr} {osl : Array (Option Value)} {N ps : List Str}
    {sp : Addr × Obj → Sp} (lk : K.lookup f = some ⟨oc, od, .func (fnOf name qual params body scope dV kV doc pm an cdv ct), osl⟩) (hcd : codeIn K cdv qual = true) (S : FnScope N ps scope) (len : ∀ p vs H Q E, sp p vs H Q E → vs.length = ps.length)
    (hbody : ∀ (A : Around) (outer : List Env) (s : Shared) (H : Hp) (vs : List V) (Q : VK) (p : Addr × Obj), RoomH k (A.deeper (envOfC qual scope s.heap.objs.size f cdv)) → sp p vs H Q E0 →
      ∃ t, PSs (cxH CX0 P w K mg base N qual scope f cdv A outer s H E0 p) body t ∧ t { nx := fun _ H' => Q .non H', rt := Q } (L2.start N vs) H) :
    FnS P w K mg base (k + 1) f (fnOf name qual params body scope dV kV doc pm an cdv ct) ps sp := by
  refine ⟨len, fun A outer s H args us vs Q p rm pin env bnd rv hsp => ?_⟩
  have lenV := len _ _ _ _ _ hsp
  have KX : K.In s.heap := env.mod.kin.keeps fun b o z => (env.bs b o z).1
  have nolim : s.heap.NoLimit := env.mod.nolimit.keeps fun b o z => (env.bs b o z).1
  refine codeAny_call_function rm.depth (KX _ _ lk) rfl S.co S.gen rfl (codeRec_of KX hcd) (bnd _ _ _ _ ?_)
  refine wpAny_newFunctionEnv_cells S.kind (fun ⟨y, v⟩ hy => ?_) fun ev hev sa xa => ?_
  · rcases S.par y (List.of_mem_zip hy).1 with z | z
    · exact .inl z
    · exact .inr ⟨z, cellsFrom_some _ _ _ (.inl z)⟩
  subst hev
  refine ⟨nolim.keeps xa.toInCall.keep, ?_⟩
  refine codeAny_func ?_
  obtain ⟨t, pt, qt⟩ := hbody A outer s H vs Q p (rm.deeper _) hsp
  have I := inv_startH (CX := CX0) (E := E0) (f := f) (cd := cdv) S pin env lenV rv xa
  refine wpAny_mono (pt.run [] sa (L2.start N vs) H _ I qt) (fun fl sb z => ?_) fun e sb z => z
  cases fl with
  | ret u =>
    obtain ⟨v, σ', H', J, r, q⟩ := z
    exact ⟨v, H', J.os, J.bare, J.base, J.hok, r, q⟩
  | next =>
    obtain ⟨σ', H', J, q⟩ := z
    exact ⟨.non, H', J.os, J.bare, J.base, J.hok, rfl, q⟩
  | brk => exact False.elim z.choose_spec.choose_spec.2
  | cont => exact False.elim z.choose_spec.choose_spec.2
section
variable {X : Cx}
theorem pe_callS {k : Nat} {f : Addr} {fd : FuncData} {ps : List Str} {sp : Addr × Obj → Sp} {x : Str} {q pos : Pos} {e : Expr} {es : List Expr} {t : TA} {p : Addr × Obj} (F : FnS X.prog X.w X.K X.mg X.base k f fd ps sp) (hr : RoomH k X.A) (hp : p ∈ X.pn) (hg : Gl X x) (hm : X.mg x = some (.ref f))
    (hk : keepIn X.K (.ref f) = true) (hb : L2.Binds X.K fd ps []) (ha : PA X (e :: es) t) (hdb : (x == ("__debug__" : Str)) = false := by decide) (he : starEach (e :: es) X.env = (false, eval e X.env) :: starEach es X.env := by rfl)
    (hpl : (backTo pos (starEach es X.env)).any (·.1) = false := by rfl) : PE X (.Call (.Name x q) (e :: es) [] pos) (fun σ H Q => t σ H fun vs H1 => sp p vs H1 Q E0) := by
  refine ⟨fun pins s σ H Q I h => ?_⟩
  refine wpAny_Call_Name_kw (ld_glob I hg hm ?_ hdb)
  refine callWith_K (h₀ := X.base) I.ok.mod.kin hk (thn (ha.run pos pins s σ H _ I h) fun us sa z => ?_) he hpl
  obtain ⟨vs, Ha, Ia, ra, hs⟩ := z
  refine ⟨Ia.kIn, ?_⟩
  have le : us.length = ps.length := by
    rw [← ra.length]
    exact F.len _ _ _ _ _ hs
  have bd := hb sa us Ia.kIn (by rw [List.append_nil]; exact le)
  rw [List.append_nil] at bd
  obtain ⟨w1, w2, w3, w4, w5⟩ := Ia.pin p (List.mem_append_left _ hp)
  have pin : PinOk X.stack Ha sa p := ⟨w1, w2, fun hm => (List.mem_cons.mp (Ia.stkSub p.1 hm)).elim w3 w4, w5⟩
  show wpAny _ _ (call (.ref f) us) _ _ _
  refine wpAny_call (codeAny_mono (F.run X.A X.stack sa Ha ⟨us, []⟩ us vs Q p hr pin Ia.env0 bd ra hs) fun r sb z => ?_)
  cases r with
  | error er => exact False.elim z
  | ok fl =>
    cases fl with
    | ret u => exact Ia.after z
    | next => exact False.elim z
    | brk => exact False.elim z
    | cont => exact False.elim z
omit [DL.Me] in
def tCode (K : Frag) (a : Addr) (cls : Value) (d : Option Addr) (te : TE) : TE := fun σ H Q => ∃ C nm dd, cls = .ref C ∧ d = some dd ∧ ErrC K C nm ∧ te σ H fun x H1 => x = .ref a ∧ (∃ xs : List (Str × V), H1 dd = some (.xd xs) ∧ List.lookup ("code" : Str) xs = some (V.str nm)) ∧ Q (.str nm) H1
theorem pe_ecode {a : Addr} {oe : Obj} {cls : Value} {d : Option Addr} {e : Expr} {te : TE} {pos : Pos} (hp : (a, oe) ∈ X.pn) (hz : Zc cls d oe) (hf : ∃ vs, oe.data = .fields vs) (he : PE X e te)
    (hb : attributeBase e "code" X.env (eval e X.env) = eval e X.env := by rfl) : PE X (.Attribute e "code" pos) (tCode X.K a cls d te) := by
  refine ⟨fun pins s σ H Q I h => ?_⟩
  obtain ⟨C, nm, dd, ec, ed, T, h⟩ := h
  subst ec
  subst ed
  refine attr_of hb (thn (he.run pins s σ H _ I h) fun u sa z => ?_)
  obtain ⟨x, Ha, Ia, ra, ex, ⟨xs, ea, el⟩, q⟩ := z
  subst ex
  obtain rfl : u = Value.ref a := ra
  obtain ⟨ga, _⟩ := Ia.pin (a, oe) (List.mem_append_left _ hp)
  obtain ⟨vs, hd⟩ := hf
  have hx : ObjOk X.prog X.w Ha sa.heap dd (.xd xs) := Ia.hok dd _ ea
  obtain ⟨mA, hns, hr⟩ := hx
  obtain ⟨od, ho, hl⟩ := lookIn_ns hns
  obtain ⟨v, hv, rv⟩ := RelO.some_of (v := V.str nm) (o := mA "code") (by have y := hr "code"; rw [el] at y; exact y)
  have J : InstAt sa.heap a oe C (some od) := ⟨ga, hz.1, by unfold notCls; rw [hd] <;> rfl, by rw [hz.2]; exact ho⟩
  exact HandSPX.exc_get Ia.kIn J T.exc.hg T.exc.hk T.exc.hs (findObj_own T.exc.hd T.noc rfl (by rw [hl, hv])) (handed_of rv) ⟨_, Ha, Ia.tok _, rv, q⟩
omit [DL.Me] in
/-- e.f, e the exception that is handled, of the class at C -/
def tEf (a : Addr) (d : Option Addr) (f : Str) (te : TE) : TE := fun σ H Q => te σ H fun x H1 => x = .ref a ∧ ∃ (dd : Addr) (xs : List (Str × V)) (v : V), d = some dd ∧ H1 dd = some (.xd xs) ∧ List.lookup f xs = some v ∧ Q v H1
theorem pe_ef {a C : Addr} {oe : Obj} {d : Option Addr} {nm f : Str} {e : Expr} {te : TE} {pos : Pos} (T : ErrC X.K C nm) (hno : findIn X.K (.ref C) f = some none) (hp : (a, oe) ∈ X.pn) (hz : Zc (.ref C) d oe) (hf : ∃ vs, oe.data = .fields vs) (he : PE X e te)
    (hb : attributeBase e f X.env (eval e X.env) = eval e X.env := by rfl) : PE X (.Attribute e f pos) (tEf a d f te) := by
  refine ⟨fun pins s σ H Q I h => ?_⟩
  refine attr_of hb (thn (he.run pins s σ H _ I h) fun u sa z => ?_)
  obtain ⟨x, Ha, Ia, ra, ex, dd, xs, v, ed, ea, el, q⟩ := z
  subst ex
  subst ed
  obtain rfl : u = Value.ref a := ra
  obtain ⟨ga, _⟩ := Ia.pin (a, oe) (List.mem_append_left _ hp)
  obtain ⟨vs, hd⟩ := hf
  have hx : ObjOk X.prog X.w Ha sa.heap dd (.xd xs) := Ia.hok dd _ ea
  obtain ⟨mA, hns, hr⟩ := hx
  obtain ⟨od, ho, hl⟩ := lookIn_ns hns
  obtain ⟨w, hv, rv⟩ := RelO.some_of (v := v) (o := mA f) (by have y := hr f; rw [el] at y; exact y)
  have J : InstAt sa.heap a oe C (some od) := ⟨ga, hz.1, by unfold notCls; rw [hd] <;> rfl, by rw [hz.2]; exact ho⟩
  exact HandSPX.exc_get Ia.kIn J T.exc.hg T.exc.hk T.exc.hs (findObj_own T.exc.hd hno rfl (by rw [hl, hv])) (handed_of rv) ⟨v, Ha, Ia.tok _, rv, q⟩
end
end DX
set_option maxHeartbeats 4000000
namespace DX
open PySem PySem.Spec PySem.Calls PyProof.Rows PySem.W L2 LamX
variable [DL.Tabs] [DL.Me]
open L2H (RoomH PinOk cxH inv_startH)
omit [DL.Me] in
/-- the further field that is told of an error of the class nm: fl says which -/
def fldV (fl : List (Str × Str)) (nm : Str) (xs : List (Str × V)) : Option (List V) := match fl.lookup nm with
  | none => some []
  | some f => (xs.lookup f).map fun v => [v]
omit [DL.Me] in
/-- what is wished of an error of the lambda: it is caught, and told by its code and the field's tuple -/
def errTold (K : Frag) (fl : List (Str × Str)) (T1 T2 T3 : Addr) (Q : VK) : XK := fun cls d H => exmAny K cls [.ref T1, .ref T2, .ref T3] = some true ∧ ∃ C nm dd xs ws, cls = .ref C ∧ d = some dd ∧ ErrC K C nm ∧ H dd = some (.xd xs) ∧ List.lookup ("code" : Str) xs = some (V.str nm) ∧ fldV fl nm xs = some ws ∧
  ∀ p q, H p = none → upd H p (.tup ws) q = none → Q (.ref q) (upd (upd H p (.tup ws)) q (.tup [.str nm, .ref p]))
omit [DL.Me] in
def TTtry (K : Frag) (fl : List (Str × Str)) (T1 T2 T3 : Addr) (e0 : Str) : (XK → Hp → VK → Prop) → Hp → VK → Prop := fun tl H Q =>
  tl (errTold K fl T1 T2 T3 Q) H fun v H1 => 2 ≤ sizeLine ∧ ∀ p, H1 p = none → Q (.ref p) (upd H1 p (.tup [.str e0, v]))
omit [DL.Me] in
/-- the field's tuple of the error at a -/
def spFld (K : Frag) (fl : List (Str × Str)) (a : Addr) (cls : Value) (d : Option Addr) : Sp := fun vs H Q _ => ∃ C nm dd xs ws, cls = .ref C ∧ d = some dd ∧ vs = [.ref a] ∧ ErrC K C nm ∧ H dd = some (.xd xs) ∧ List.lookup ("code" : Str) xs = some (V.str nm) ∧ fldV fl nm xs = some ws ∧
  ∀ q, H q = none → Q (.ref q) (upd H q (.tup ws))
omit [DL.Me] in
def spField (K : Frag) (fl : List (Str × Str)) : Addr × Obj → Sp := fun p vs H Q E => ∃ cls d, Zc cls d p.2 ∧ (∃ fv, p.2.data = .fields fv) ∧ spFld K fl p.1 cls d vs H Q E
omit [DL.Me] in
/-- the body of the law's field def: if e.code == c: return (e.f,), .., return () -/
inductive FieldB (y : Str) : List Stmt → List (Str × Str) → Prop where
  | nil {kk : Nat} {p1 p2 : Pos} : FieldB y [.Return (some (.Tuple [] kk p1)) p2] []
  | cons {c f : Str} {rest : List Stmt} {fl : List (Str × Str)} {j kk : Nat} {p1 p2 p3 p4 p5 p6 p7 p8 p9 : Pos} (hf : f ∈ errFields) (h : FieldB y rest fl) :
      FieldB y (.If (.Compare (.Attribute (.Name y p1) "code" p2) [.Eq] [.Constant (.str c) j p3] p4) [.Return (some (.Tuple [.Attribute (.Name y p5) f p6] kk p7)) p8] [] p9 :: rest) ((c, f) :: fl)
theorem field_body {X : Cx} {y nm : Str} {a C : Addr} {oe : Obj} {dd : Addr} {xs : List (Str × V)} (hp : (a, oe) ∈ X.pn) (hz : Zc (.ref C) (some dd) oe) (hf : ∃ fv, oe.data = .fields fv) (T : ErrC X.K C nm) (hc : List.lookup ("code" : Str) xs = some (V.str nm))
    (hN : X.N[0]? = some y) (hv : Vis X.env.scope y) (dy : (y == ("__debug__" : Str)) = false) (cy : (y == ("__classdict__" : Str)) = false) {body : List Stmt} {fl : List (Str × Str)} (B : FieldB y body fl) :
    ∀ {ws : List V}, fldV fl nm xs = some ws → ∃ t, PSs X body t ∧ ∀ (σ : L2.St) (H : Hp) (D : Ends), σ[0]? = some (some (.ref a)) → H dd = some (.xd xs) → (∀ q, H q = none → D.rt (.ref q) (upd H q (.tup ws))) → t D σ H := by
  have one : 1 ≤ sizeLine := by rw [sizeLine_eq]; omega
  induction B with
  | nil =>
    intro ws e
    cases e
    exact ⟨_, pss_one (ps_ret (pe_tup pa_nil)), fun σ H D h0 hx k => ⟨Nat.zero_le _, k⟩⟩
  | @cons c f rest fl j kk p1 p2 p3 p4 p5 p6 p7 p8 p9 hff h ih =>
    intro ws e
    have pv : ∀ {p : Pos}, PE X (.Name y p) (tVar 0) := fun {p} => pe_var hN hv dy cy
    have pc : PE X (.Attribute (.Name y p1) "code" p2) (tEf a (some dd) "code" (tVar 0)) := pe_ef T T.noc hp hz hf pv
    have pf : PE X (.Attribute (.Name y p5) f p6) (tEf a (some dd) f (tVar 0)) := pe_ef T (T.nof hff) hp hz hf pv
    have pt := pt_cmpR (pos := p4) op_eq pc (pe_str (X := X) (x := c) (j := j) (pos := p3)) (nomark _)
    have ret := pss_one (ps_ret (pos := p8) (pe_tup (x1 := kk) (pos := p7) (pa_cons pf pa_nil)))
    unfold fldV at e
    rw [List.lookup_cons] at e
    cases hq : (nm == c) with
    | true =>
      rw [hq] at e
      obtain rfl : nm = c := eq_of_beq hq
      obtain ⟨v, hv2, ew⟩ := Option.map_eq_some_iff.mp e
      cases ew
      refine ⟨_, pss_cons (ps_if (pos := p9) pt ret pss_nil) (pss_never (sts := rest)), fun σ H D h0 hx k => ?_⟩
      refine ⟨.ref a, h0, rfl, dd, xs, _, rfl, hx, hc, rfl, _, rfl, ?_⟩
      show if (decide (V.str nm = V.str nm)) = true then _ else _
      rw [if_pos (decide_eq_true rfl)]
      exact ⟨.ref a, h0, rfl, dd, xs, v, rfl, hx, hv2, one, k⟩
    | false =>
      rw [hq] at e
      obtain ⟨t, pt2, ht⟩ := ih e
      refine ⟨_, pss_cons (ps_if (pos := p9) pt ret pss_nil) pt2, fun σ H D h0 hx k => ?_⟩
      have ne : ¬ (V.str nm = V.str c) := fun z => by
        cases z
        rw [beq_self_eq_true] at hq
        cases hq
      refine ⟨.ref a, h0, rfl, dd, xs, _, rfl, hx, hc, rfl, _, rfl, ?_⟩
      show if (decide (V.str nm = V.str c)) = true then _ else _
      rw [if_neg (by rw [decide_eq_false ne]; exact Bool.false_ne_true)]
      exact ht σ H D h0 hx k
theorem fn_field {P : Program} {w : World} {K : Frag} {mg : Str → Option Value} {base : Heap} {k : Nat} {f : Addr} {name qual y : Str} {params : Arguments} {scope : Scope} {dV kV doc pm cdv ct oc : Value} {an od : Option Addr} {osl : Array (Option Value)} {N : List Str} {body : List Stmt} {fl : List (Str × Str)}
    (lk : K.lookup f = some ⟨oc, od, .func (fnOf name qual params body scope dV kV doc pm an cdv ct), osl⟩) (hcd : codeIn K cdv qual = true) (S : FnScope N [y] scope) (B : FieldB y body fl) (hN : N[0]? = some y) (h0 : ∀ v : V, (L2.start N [v])[0]? = some (some v))
    (dy : (y == ("__debug__" : Str)) = false := by decide) (cy : (y == ("__classdict__" : Str)) = false := by decide) :
    FnS P w K mg base (k + 1) f (fnOf name qual params body scope dV kV doc pm an cdv ct) [y] (spField K fl) := by
  refine fn_suite lk hcd S (fun p vs H Q E h => ?_) fun A outer s H vs Q p rm h => ?_
  · obtain ⟨_, _, _, _, _, _, _, _, _, _, _, e, _⟩ := h
    rw [e]
    rfl
  · obtain ⟨cls, d, hz, hf, C, nm, dd, xs, ws, ec, ed, ev, T, hx, hc, hw, q⟩ := h
    subst ec ed ev
    have hv : Vis scope y := (S.par y List.mem_cons_self).elim .inl fun z => .inr (.inl z)
    obtain ⟨t, pt, ht⟩ := field_body (X := L2H.cxH CX0 P w K mg base N qual scope f cdv A outer s H E0 p) (a := p.1) (oe := p.2) List.mem_cons_self hz hf T hc hN hv dy cy B hw
    exact ⟨t, pt, ht _ _ _ (h0 _) hx q⟩
section
variable {X : Cx}
theorem try_gives {fl : List (Str × Str)} {Ng : List Str} {x a e e0 q x1 x2 x3 xf yf : Str} {sg : Scope} {g T1 T2 T3 ff : Addr} {fd : FuncData} {cdg : Value} {j k kk i1 i2 : Nat} {p1 p2 p3 p4 p5 p6 p7 p8 p9 p10 p11 p12 p13 p14 p15 p16 p17 p18 p19 p20 : Pos}
    (g1 : sg.names.lookup x1 = some .globalImplicit) (m1 : X.mg x1 = some (.ref T1)) (d1 : (x1 == ("__debug__" : Str)) = false) (g2 : sg.names.lookup x2 = some .globalImplicit) (m2 : X.mg x2 = some (.ref T2)) (d2 : (x2 == ("__debug__" : Str)) = false)
    (g3 : sg.names.lookup x3 = some .globalImplicit) (m3 : X.mg x3 = some (.ref T3)) (d3 : (x3 == ("__debug__" : Str)) = false) (gf : sg.names.lookup xf = some .globalImplicit) (mf : X.mg xf = some (.ref ff)) (df : (xf == ("__debug__" : Str)) = false)
    (kf : keepIn X.K (.ref ff) = true) (F : FnS X.prog X.w X.K X.mg X.base k ff fd [yf] (spField X.K fl)) (bf : L2.Binds X.K fd [yf] [])
    (nd : Ng.Nodup) (hN : Ng[1]? = some e) (le : sg.names.lookup e = some .local) (de : (e == ("__debug__" : Str)) = false) (ce : (e == ("__classdict__" : Str)) = false)
    (hrm : ∀ (s : Shared) (b : Addr), RoomH k ((X.A.deeper (envOfC x sg s.heap.objs.size g cdg)).mark (some (.ref b))))
    (h0 : ∀ f : Addr, (L2.start Ng [V.ref f])[0]? = some (some (V.ref f))) (hl : Ng.length = 2) :
    GivesTo X Ng x sg g cdg [.Try [.Return (some (.Tuple [.Constant (.str e0) j p1, .Call (.Name a p2) [] [] p3] i1 p4)) p5]
      [.ExceptHandler (some (.Tuple [.Name x1 p6, .Name x2 p7, .Name x3 p8] kk p9)) (some e) [.Return (some (.Tuple [.Attribute (.Name e p10) "code" p11, .Call (.Name xf p12) [.Name e p13] [] p14] i2 p15)) p16] p17] [] [] p18] a q (TTtry X.K fl T1 T2 T3 e0) := by
  intro f c' s H Q tl act hc h
  let Z : Cx := (cxOf C8.CX0 X.prog X.w X.K X.mg X.base Ng x sg g cdg X.A X.stack s H C8.E0).nox
  refine ⟨_, pss_one (ps_try_as3 (X := Z) (i := 1) (ts := fun a cls d => tRet (tTup (tCons (tCode X.K a cls d (tVar 1)) (tCons (fun σ H Q => tCons (tVar 1) tNil σ H fun vs H1 => spFld X.K fl a cls d vs H1 Q E0) tNil))))
    (tb := fun W D σ H => ∃ Ech : XK, (∀ cls d σ' H', Ech cls d H' → W cls d σ' H') ∧ σ[0]? = some (some (.ref f)) ∧ H c' = some (CodeO c' q) ∧ tl Ech H fun v H1 => 2 ≤ sizeLine ∧ ∀ p, H1 p = none → D.rt (.ref p) (upd H1 p (.tup [.str e0, v])))
    rfl rfl nd hN le g1 m1 d1 g2 m2 d2 g3 m3 d3 (fun W pn xe tk _ => ?_) (fun a oe cls d pn hz hf => ?_)), ?_⟩
  · refine ⟨fun pp sa σ Ha D I hh => ?_⟩
    obtain ⟨Ech, hW, k1, k2, k3⟩ := hh
    have body := pss_one (ps_ret (pos := p5) (pe_tup (x1 := i1) (pos := p4) (pa_cons (pe_str (x := e0) (j := j) (pos := p1)) (pa_cons (act W pn xe Ech p2 p3 tk hW) pa_nil))))
    exact body.run pp sa σ Ha D I ⟨k1, k2, k3⟩
  · have pe1 : PE (Z.suite a ((a, oe) :: pn)) (.Name e p10) (tVar 1) := pe_var (X := Z.suite a ((a, oe) :: pn)) (i := 1) hN (.inl le) de ce
    have pe2 : PE (Z.suite a ((a, oe) :: pn)) (.Name e p13) (tVar 1) := pe_var (X := Z.suite a ((a, oe) :: pn)) (i := 1) hN (.inl le) de ce
    have pe3 := pe_ecode (X := Z.suite a ((a, oe) :: pn)) (d := d) (cls := cls) (a := a) (oe := oe) (pos := p11) List.mem_cons_self hz hf pe1
    have pe5 : PE (Z.suite a ((a, oe) :: pn)) (.Call (.Name xf p12) [.Name e p13] [] p14) (fun σ H Q => tCons (tVar 1) tNil σ H fun vs H1 => spField X.K fl (a, oe) vs H1 Q E0) :=
      pe_callS (X := Z.suite a ((a, oe) :: pn)) (p := (a, oe)) F (hrm s a) List.mem_cons_self gf mf kf bf (pa_cons pe2 pa_nil) df
    have pe4 : PE (Z.suite a ((a, oe) :: pn)) (.Call (.Name xf p12) [.Name e p13] [] p14) (fun σ H Q => tCons (tVar 1) tNil σ H fun vs H1 => spFld X.K fl a cls d vs H1 Q E0) :=
      ⟨fun pins s σ H Q I hh => pe5.run pins s σ H Q I (by
        obtain ⟨v, e1, e2⟩ := hh
        exact ⟨v, e1, cls, d, hz, hf, e2⟩)⟩
    exact pss_one (ps_ret (pe_tup (pa_cons pe3 (pa_cons pe4 pa_nil))))
  · refine ⟨errTold X.K fl T1 T2 T3 Q, fun cls d σ' H' z => ?_, h0 f, hc, h⟩
    obtain ⟨em, C, nm, dd, xs, ws, ec, ed, T, hx, hc0, hw, done⟩ := z
    refine ⟨em, fun b nb lb => ?_⟩
    have at1 : (σ'.set 1 (some (V.ref b)))[1]? = some (some (V.ref b)) := by
      rw [List.getElem?_set_self (by rw [lb]; show 1 < Ng.length; rw [hl]; exact Nat.lt_succ_self 1)]
    refine ⟨C, nm, dd, ec, ed, T, .ref b, at1, rfl, ⟨xs, hx, hc0⟩, .ref b, at1, C, nm, dd, xs, ws, ec, ed, rfl, T, hx, hc0, hw, fun p np => ⟨by rw [sizeLine_eq]; show 2 ≤ _; omega, fun r nr => ?_⟩⟩
    exact done p r np nr
end
end DX
set_option maxHeartbeats 4000000
namespace DX
open PySem PySem.Spec PySem.Calls PyProof.Rows PySem.W L2 LamX DL
variable [DL.Tabs] [DL.Me]
theorem rel_lam2 {K : Frag} {β : Addr} {P : Hp} {σ : L2.St} {H H1 G : Hp} {s : Sta} (R : Rel K β P σ H G s) (eN : ExtN H H1) (tS : ∀ q ∈ Tabs.ts, TabS H1 q.1 q.2) : ∃ G1, Ext G G1 ∧ Rel K β P σ H1 G1 s ∧ ∀ c q, H1 c = some (CodeO c q) → G1 c = some (CodeO c q) := by
  classical
  have cnl : ∀ (p : Addr) (q : Str) (vs : List V), CodeO p q ≠ .lst vs := fun p q vs z => by
    have z' : HO.ext _ = HO.lst vs := z
    cases z'
  let G1 : Hp := fun p => if G p = none ∧ P p = none ∧ ∃ q, H1 p = some (CodeO p q) then H1 p else G p
  have some1 : ∀ {p o}, G p = some o → G1 p = some o := fun {p o} e => by
    show (if _ then _ else _) = _
    rw [if_neg (fun z => by rw [z.1] at e; cases e)]
    exact e
  have none1 : ∀ {p o}, G p = none → G1 p = some o → H1 p = some o ∧ P p = none ∧ ∃ q, o = CodeO p q := fun {p o} g e => by
    have e' : (if G p = none ∧ P p = none ∧ ∃ q, H1 p = some (CodeO p q) then H1 p else G p) = some o := e
    split at e'
    · rename_i c
      obtain ⟨_, c2, q, c3⟩ := c
      rw [c3] at e'
      cases e'
      exact ⟨c3, c2, q, rfl⟩
    · rw [g] at e'
      cases e'
  have stay : ∀ {p}, G p = none → (∀ q, H1 p ≠ some (CodeO p q)) → G1 p = none := fun {p} g h => by
    show (if _ then _ else _) = _
    rw [if_neg (fun z => z.2.2.elim fun q hq => h q hq)]
    exact g
  have xx : Ext G G1 := fun p o e => some1 e
  have lst1 : ∀ {p vs}, H p = some (.lst vs) → G p = none → H1 p = some (.lst vs) ∧ G1 p = none := fun {p vs} h g => by
    have h1 := eN p _ h (fun ps z => by cases z)
    exact ⟨h1, stay g fun q z => by rw [h1] at z; exact cnl p q vs (Option.some.inj z).symm⟩
  have own1 : ∀ {p kk vs}, H p = some (ownO kk vs) → G p = none → H1 p = some (ownO kk vs) ∧ G1 p = none := fun {p kk vs} h g => by
    have h1 := eN p _ h (fun ps z => (nx_own (p := p)).1 ps z)
    exact ⟨h1, stay g fun q z => by rw [h1] at z; exact nx_own.2 q (Option.some.inj z)⟩
  have noT : ∀ {p ps}, G p ≠ some (.tbl ps) := fun {p ps} => R.nt p ps
  have all : ∀ c q, H1 c = some (CodeO c q) → G1 c = some (CodeO c q) := fun c q e => by
    cases hg : G c with
    | some o =>
      have z := eN c o (R.gh c o hg) (fun ps z => R.nt c ps (by rw [hg, z]))
      rw [e] at z
      rw [some1 hg]
      exact z.symm
    | none =>
      have pn : P c = none := by
        cases hp : P c with
        | none => rfl
        | some o =>
          have h1 := eN c o (R.pr c o hp).1 (R.pt c o hp).1
          rw [e] at h1
          exact absurd (Option.some.inj h1).symm ((R.pt c o hp).2 q)
      show (if _ then _ else _) = _
      rw [if_pos ⟨hg, pn, q, e⟩]
      exact e
  refine ⟨G1, xx, ?_, all⟩
  exact {
    len := R.len
    gh := fun p o e => by
      cases hg : G p with
      | some o' =>
        rw [some1 hg] at e
        cases e
        exact eN p o (R.gh p o hg) (fun ps z => R.nt p ps (by rw [hg, z]))
      | none => exact (none1 hg e).1
    pr := fun p o e => by
      obtain ⟨h1, h2⟩ := R.pr p o e
      refine ⟨eN p o h1 (R.pt p o e).1, ?_⟩
      cases g : G1 p with
      | none => rfl
      | some o' =>
        have := (none1 h2 g).2.1
        rw [e] at this
        cases this
    pb := R.pb
    bag := by
      obtain ⟨us, h1, h2, h3⟩ := R.bag
      obtain ⟨k1, k2⟩ := lst1 h1 h2
      exact ⟨us, k1, k2, IsL.mono xx _ _ h3⟩
    dat := fun j d e => by
      obtain ⟨v, h1, h2⟩ := R.dat j d e
      exact ⟨v, h1, IsD.mono xx _ _ h2⟩
    own := fun j l kk e => by
      obtain ⟨p, vs, h1, h2, h3, h4, h5, h6⟩ := R.own j l _ e
      obtain ⟨k1, k2⟩ := own1 h2 h3
      exact ⟨p, vs, h1, k1, k2, h4, h5, IsL.mono xx _ _ h6⟩
    dj := R.dj
    obj := fun j c0 ks l e => by
      obtain ⟨p, C, dx, vs, h1, h0, h2, h3, h4, h5, h6⟩ := R.obj j c0 ks l e
      have g1 := eN p _ h2 (fun ps z => by cases z)
      exact ⟨p, C, dx, vs, h1, h0, g1, stay h3 (fun q z => by
        rw [g1] at z
        exact nx_ins.2 q (Option.some.inj z)), h4, h5, IsL.mono xx _ _ h6⟩
    oj := R.oj
    fns := fun i l q e => (R.fns i l q e).mono xx
    tabs := fun q hq => by
      obtain ⟨t0, ga, np⟩ := R.tabs q hq
      obtain ⟨ps, k1, k2, k3⟩ := tS q hq
      refine ⟨⟨ps, k1, k2, fun pos cv hc => ?_⟩, ?_, np⟩
      · obtain ⟨c, c1, c2⟩ := k3 pos cv hc
        refine ⟨c, c1, ?_⟩
        cases hg : G c with
        | some o =>
          rw [some1 hg]
          have := eN c o (R.gh c o hg) (fun ps z => R.nt c ps (by rw [hg, z]))
          rw [c2] at this
          exact this.symm
        | none =>
          have pn : P c = none := by
            cases e : P c with
            | none => rfl
            | some o =>
              have h1 := eN c o (R.pr c o e).1 (R.pt c o e).1
              rw [c2] at h1
              exact absurd (Option.some.inj h1).symm ((R.pt c o e).2 q.2)
          show (if _ then _ else _) = _
          rw [if_pos ⟨hg, pn, q.2, c2⟩]
          exact c2
      · refine stay ga fun r z => ?_
        rw [k1] at z
        exact codeO_ne ps (Option.some.inj z).symm
    nt := fun p ps e => by
      cases hg : G p with
      | some o =>
        rw [some1 hg] at e
        exact R.nt p ps (by rw [hg, e])
      | none =>
        obtain ⟨_, _, q, z⟩ := none1 hg e
        exact codeO_ne ps z.symm
    pt := R.pt }
theorem rel_lam {K : Frag} {β : Addr} {P : Hp} {σ : L2.St} {H H1 G : Hp} {s : Sta} (R : Rel K β P σ H G s) (eN : ExtN H H1) (tS : ∀ q ∈ Tabs.ts, TabS H1 q.1 q.2) : ∃ G1, Ext G G1 ∧ Rel K β P σ H1 G1 s :=
  let ⟨G1, a, b, _⟩ := rel_lam2 R eN tS
  ⟨G1, a, b⟩
omit [DL.Me] in
/-- an error: the name of its class, its further fields -/
structure Er where
  nm : Str
  fs : List (Str × Dt)
omit [DL.Me] in
abbrev DMX := Sta → Option ((Dt ⊕ Er) × Sta)
omit [DL.Me] in
/-- the dict of such an error stands at dd -/
def xdOk (K : Frag) (β : Addr) (G : Hp) (dd : Addr) (er : Er) : Prop := ∃ xs : List (Str × V), G dd = some (.xd xs) ∧ List.lookup ("code" : Str) xs = some (V.str er.nm) ∧ ∀ p ∈ er.fs, ∃ v, xs.lookup p.1 = some v ∧ IsD K β G p.2 v
omit [DL.Me] in
/-- what is wished at an error of the name nm -/
def errAt (K : Frag) (β : Addr) (P : Hp) (σ : L2.St) (G : Hp) (s : Sta) (W : XK) (er : Er) : Prop := ∀ C dd H' G', Ext G G' → Rel K β P σ H' G' s → ErrC K C er.nm → xdOk K β G' dd er → W (.ref C) (some dd) H'
omit [DL.Me] in
def tOfX (K : Frag) (f : DMX) (W : XK) : TE := fun σ H Q => ∃ (β : Addr) (P G : Hp) (s : Sta) (r : Dt ⊕ Er) (s' : Sta), Rel K β P σ H G s ∧ f s = some (r, s') ∧ match r with
  | .inl d => ∀ v H' G', Ext G G' → Rel K β P σ H' G' s' → IsD K β G' d v → Q v H'
  | .inr er => errAt K β P σ G s' W er
omit [DL.Me] in
def DEX (X : Cx) (W : XK) (e : Expr) (f : DMX) : Prop := PE X e (tOfX X.K f W)
omit [DL.Me] in
/-- the further field that is told of an error -/
def fldE (fl : List (Str × Str)) (er : Er) : Option (List Dt) := match fl.lookup er.nm with
  | none => some []
  | some f => (er.fs.lookup f).map fun d => [d]
omit [DL.Me] in
def mTry (fl : List (Str × Str)) (e0 : Str) (f : DMX) : DM Dt := fun s => (f s).bind fun p => match p.1 with
  | .inl d => some (.tup [.str e0, d], p.2)
  | .inr er => (fldE fl er).bind fun ds => some (.tup [.str er.nm, .tup ds], p.2)
theorem fld_is {K : Frag} {β : Addr} {G : Hp} {fl : List (Str × Str)} {er : Er} {ds : List Dt} {xs : List (Str × V)} (e : fldE fl er = some ds) (h : ∀ p ∈ er.fs, ∃ v, xs.lookup p.1 = some v ∧ IsD K β G p.2 v) : ∃ ws, fldV fl er.nm xs = some ws ∧ IsL K β G ds ws := by
  unfold fldE at e
  unfold fldV
  cases hq : fl.lookup er.nm with
  | none =>
    rw [hq] at e
    cases e
    exact ⟨[], rfl, isl_nil.mpr rfl⟩
  | some f =>
    rw [hq] at e
    obtain ⟨d, hd, ed⟩ := Option.map_eq_some_iff.mp e
    cases ed
    obtain ⟨v, hv, iv⟩ := h (f, d) (PySem.mem_of_lookup hd)
    exact ⟨[v], by show (xs.lookup f).map _ = _; rw [show xs.lookup f = some v from hv]; rfl, isl_cons.mpr ⟨v, [], rfl, iv, isl_nil.mpr rfl⟩⟩
theorem te_try {fl : List (Str × Str)} {K : Frag} {T1 T2 T3 : Addr} {e0 : Str} {f : DMX} (hT : ∀ C nm, ErrC K C nm → exmAny K (.ref C) [.ref T1, .ref T2, .ref T3] = some true) :
    TEok K (tLam Tabs.ts (TTtry K fl T1 T2 T3 e0) (fun E => tOfX K f E)) (mTry fl e0 f) := by
  intro β P σ H G s d s' R e Q k
  unfold mTry at e
  obtain ⟨⟨r, s1⟩, e1, e⟩ := Option.bind_eq_some_iff.mp e
  refine ⟨fun q hq => ?_, fun H1 eN tS => ?_⟩
  · obtain ⟨⟨ps, t1, t2, t3⟩, ga, np⟩ := R.tabs q hq
    refine ⟨ps, t1, t2, fun pos cv hc => ?_⟩
    obtain ⟨c, c1, c2⟩ := t3 pos cv hc
    exact ⟨c, c1, R.gh c _ c2⟩
  · obtain ⟨G1, x1, R1⟩ := rel_lam R eN fun q hq => tS q hq
    refine ⟨β, P, G1, s, r, s1, R1, e1, ?_⟩
    cases r with
    | inl d0 =>
      cases e
      intro v H2 G2 x2 R2 i2
      refine ⟨by rw [sizeLine_eq]; omega, fun p hp => ?_⟩
      have xn := Ext.new (o := HO.tup [.str e0, v]) (R2.free hp)
      exact k _ _ _ ((x1.trans x2).trans xn) (R2.new hp) (is_tup.mpr ⟨p, _, rfl, .inl (.inl upd_same), isl_cons.mpr ⟨_, _, rfl, is_str.mpr rfl, isl_cons.mpr ⟨v, _, rfl, IsD.mono xn _ _ i2, isl_nil.mpr rfl⟩⟩⟩)
    | inr er =>
      obtain ⟨ds, e2, e⟩ := Option.bind_eq_some_iff.mp e
      cases e
      intro C dd H2 G2 x2 R2 ec g2
      obtain ⟨xs, g3, g4, g5⟩ := g2
      obtain ⟨ws, w1, w2⟩ := fld_is e2 g5
      refine ⟨hT C er.nm ec, C, er.nm, dd, xs, ws, rfl, rfl, ec, R2.gh dd _ g3, g4, w1, fun p r hp hr => ?_⟩
      have R3 := R2.new (o := .tup ws) hp
      have x3 := Ext.new (o := HO.tup ws) (R2.free hp)
      have x4 := Ext.new (o := HO.tup [.str er.nm, .ref p]) (R3.free hr)
      have R4 := R3.new (o := .tup [.str er.nm, .ref p]) hr
      refine k _ _ _ (((x1.trans x2).trans x3).trans x4) R4 (is_tup.mpr ⟨r, _, rfl, .inl (.inl upd_same), isl_cons.mpr ⟨_, _, rfl, is_str.mpr rfl, isl_cons.mpr ⟨.ref p, _, rfl, IsD.mono x4 _ _ (is_tup.mpr ⟨p, ws, rfl, .inl (.inl upd_same), IsL.mono x3 _ _ w2⟩), isl_nil.mpr rfl⟩⟩⟩)
end DX
set_option maxHeartbeats 4000000
namespace DX
open PySem PySem.Spec PySem.Calls PyProof.Rows PySem.W L2 DL
variable [DL.Tabs] [DL.Me]
omit [DL.Me] in
abbrev FDX := List Dt → List Dt → Option ((Dt ⊕ Er) × List Dt)
omit [DL.Me] in
def spX (K : Frag) (n : Nat) (F : FDX) : Sp := fun vs H Q E => ∃ (β : Addr) (P G : Hp) (ds bg : List Dt) (r : Dt ⊕ Er) (bg' : List Dt), vs.length = n ∧ IsL K β G ds vs ∧ Rel K β P [] H G ⟨[], bg⟩ ∧ F ds bg = some (r, bg') ∧ match r with
  | .inl d => ∀ v H' G', Ext G G' → Rel K β P [] H' G' ⟨[], bg'⟩ → IsD K β G' d v → Q v H'
  | .inr nm => errAt K β P [] G ⟨[], bg'⟩ E nm
omit [DL.Me] in
def mAppX (F : FDX) (f : DM (List Dt)) : DMX := fun s => (f s).bind fun p => (F p.1 p.2.bag).bind fun q => some (q.1, { p.2 with bag := q.2 })
section
variable {X : Cx} {W : XK}
theorem dex_call {k : Nat} {f : Addr} {fd : FuncData} {ps : List Str} {n : Nat} {F : FDX} {x : Str} {e : Expr} {es : List Expr} {p pos : Pos} {g : DM (List Dt)} (FF : FnOk X.prog X.w X.K X.mg X.base (L2.CX X.prog X.w) k f fd ps (spX X.K n F)) (hr : Room k X.A) (hg : Gl X x) (hm : X.mg x = some (.ref f))
    (hk : keepIn X.K (.ref f) = true) (hb : L2.Binds X.K fd ps []) (tk : Takes X (fun cls d _ H => W cls d H)) (ha : DA X (e :: es) g) (hn : ∀ s ds s', g s = some (ds, s') → ds.length = n) (hdb : (x == ("__debug__" : Str)) = false := by decide)
    (he : starEach (e :: es) X.env = (false, eval e X.env) :: starEach es X.env := by rfl) (hpl : (backTo pos (starEach es X.env)).any (·.1) = false := by rfl) : DEX X W (.Call (.Name x p) (e :: es) [] pos) (mAppX F g) := by
  obtain ⟨t, p1, o1⟩ := ha
  have pe := pe_call (p := p) (pos := pos) FF hr hg hm hk hb .nil (passes_call (E := W) tk fun _ _ _ _ h => h) p1 hdb he hpl
  refine ⟨fun pins s σ H Q I h => pe.run pins s σ H Q I ?_⟩
  obtain ⟨β, P, G, a, r, a', R, e1, q⟩ := h
  unfold mAppX at e1
  obtain ⟨⟨y, s1⟩, e2, e1⟩ := Option.bind_eq_some_iff.mp e1
  obtain ⟨⟨z, bg'⟩, e3, e1⟩ := Option.bind_eq_some_iff.mp e1
  cases e1
  refine o1 β P σ H G a y s1 R e2 _ fun vs H1 G1 x1 R1 i1 => ?_
  rw [List.append_nil]
  refine ⟨β, shut β H1 G1, G1, y, s1.bag, z, bg', by rw [i1.len]; exact hn _ _ _ e2, i1, R1.callee, e3, ?_⟩
  cases z with
  | inl d => exact fun v H' G' x2 C i => q v H' G' (x1.trans x2) (R1.back x2 C) i
  | inr nm => exact fun C dd H' G' x2 R2 ec gd => q C dd H' G' (x1.trans x2) (R1.back x2 R2) ec gd
end
omit [DL.Me] in
inductive ResX where
  | nx | bk | ct | rt (d : Dt) | ex (er : Er)
omit [DL.Me] in
abbrev DMsX := Sta → Option (ResX × Sta)
omit [DL.Me] in
def endX (K : Frag) (β : Addr) (P G : Hp) (D : Ends) (W : XK) (r : ResX) (s' : Sta) : Prop := match r with
  | .nx => ∀ σ' H' G', Ext G G' → Rel K β P σ' H' G' s' → D.nx σ' H'
  | .bk => ∀ σ' H' G', Ext G G' → Rel K β P σ' H' G' s' → D.bk σ' H'
  | .ct => ∀ σ' H' G', Ext G G' → Rel K β P σ' H' G' s' → D.ct σ' H'
  | .rt d => ∀ v σ' H' G', Ext G G' → Rel K β P σ' H' G' s' → IsD K β G' d v → D.rt v H'
  | .ex er => ∀ C dd σ' H' G', Ext G G' → Rel K β P σ' H' G' s' → ErrC K C er.nm → xdOk K β G' dd er → W (.ref C) (some dd) H'
theorem endX.mono {K : Frag} {β : Addr} {P G G1 : Hp} {D : Ends} {W : XK} {r : ResX} {s' : Sta} (e : Ext G G1) (h : endX K β P G D W r s') : endX K β P G1 D W r s' := by
  cases r with
  | nx => exact fun σ' H' G' x R => h σ' H' G' (e.trans x) R
  | bk => exact fun σ' H' G' x R => h σ' H' G' (e.trans x) R
  | ct => exact fun σ' H' G' x R => h σ' H' G' (e.trans x) R
  | rt d => exact fun v σ' H' G' x R => h v σ' H' G' (e.trans x) R
  | ex nm => exact fun C dd σ' H' G' x R => h C dd σ' H' G' (e.trans x) R
omit [DL.Me] in
def tsX (K : Frag) (f : DMsX) (W : XK) : TS := fun D σ H => ∃ (β : Addr) (P G : Hp) (s : Sta) (r : ResX) (s' : Sta), Rel K β P σ H G s ∧ f s = some (r, s') ∧ endX K β P G D W r s'
omit [DL.Me] in
def DSX (X : Cx) (W : XK) (st : Stmt) (f : DMsX) : Prop := PS X st (tsX X.K f W)
omit [DL.Me] in
def DSXs (X : Cx) (W : XK) (st : List Stmt) (f : DMsX) : Prop := PSs X st (tsX X.K f W)
omit [DL.Me] in
def toX : Res → ResX
  | .nx => .nx
  | .bk => .bk
  | .ct => .ct
  | .rt d => .rt d
omit [DL.Me] in
def kVal (f : DMs) : DMsX := fun s => (f s).bind fun p => some (toX p.1, p.2)
omit [DL.Me] in
def kSeqX (f g : DMsX) : DMsX := fun s => (f s).bind fun p => match p.1 with
  | .nx => g p.2
  | r => some (r, p.2)
omit [DL.Me] in
def kIfX (c : DM Bool) (f g : DMsX) : DMsX := fun s => (c s).bind fun p => if p.1 = true then f p.2 else g p.2
omit [DL.Me] in
def kRaise (nm : Str) : DMsX := fun s => some (.ex ⟨nm, []⟩, s)
section
variable {X : Cx} {W : XK}
theorem dsx_val {st : Stmt} {f : DMs} (h : DS X st f) : DSX X W st (kVal f) := by
  obtain ⟨t, p, o⟩ := h
  refine ⟨fun pins s σ H D I k => p.run pins s σ H D I ?_⟩
  obtain ⟨β, P, G, a, r, a', R, e1, q⟩ := k
  unfold kVal at e1
  obtain ⟨⟨y, s1⟩, e2, e1⟩ := Option.bind_eq_some_iff.mp e1
  cases e1
  refine o β P σ H G a y s1 R e2 D ?_
  cases y <;> exact q
theorem dssx_val {st : List Stmt} {f : DMs} (h : DSs X st f) : DSXs X W st (kVal f) := by
  obtain ⟨t, p, o⟩ := h
  refine ⟨fun pins s σ H D I k => p.run pins s σ H D I ?_⟩
  obtain ⟨β, P, G, a, r, a', R, e1, q⟩ := k
  unfold kVal at e1
  obtain ⟨⟨y, s1⟩, e2, e1⟩ := Option.bind_eq_some_iff.mp e1
  cases e1
  refine o β P σ H G a y s1 R e2 D ?_
  cases y <;> exact q
theorem dssx_one {st : Stmt} {f : DMsX} (h : DSX X W st f) : DSXs X W [st] f := pss_one h
theorem dssx_cons {st : Stmt} {rest : List Stmt} {f g : DMsX} (h1 : DSX X W st f) (h2 : DSXs X W rest g) : DSXs X W (st :: rest) (kSeqX f g) := by
  have p := pss_cons h1 h2
  refine ⟨fun pins s σ H D I k => p.run pins s σ H D I ?_⟩
  obtain ⟨β, P, G, a, r, a', R, e1, q⟩ := k
  unfold kSeqX at e1
  obtain ⟨⟨y, s1⟩, e2, e1⟩ := Option.bind_eq_some_iff.mp e1
  refine ⟨β, P, G, a, y, s1, R, e2, ?_⟩
  cases y with
  | nx => exact fun σ1 H1 G1 x1 R1 => ⟨β, P, G1, s1, r, a', R1, e1, q.mono x1⟩
  | bk => cases e1; exact q
  | ct => cases e1; exact q
  | rt d => cases e1; exact q
  | ex nm => cases e1; exact q
theorem dsx_if {c : Expr} {a b : List Stmt} {fc : DM Bool} {f g : DMsX} {pos : Pos} (hc : DT X c fc) (ha : DSXs X W a f) (hb : DSXs X W b g) : DSX X W (.If c a b pos) (kIfX fc f g) := by
  obtain ⟨t, p, o⟩ := hc
  have p2 := ps_if (pos := pos) p ha hb
  refine ⟨fun pins s σ H D I k => p2.run pins s σ H D I ?_⟩
  obtain ⟨β, P, G, z, r, z', R, e1, q⟩ := k
  unfold kIfX at e1
  obtain ⟨⟨y, s1⟩, e2, e1⟩ := Option.bind_eq_some_iff.mp e1
  refine o β P σ H G z y s1 R e2 _ fun H1 G1 x1 R1 => ?_
  cases y with
  | true =>
    rw [if_pos rfl] at e1 ⊢
    exact ⟨β, P, G1, s1, r, z', R1, e1, q.mono x1⟩
  | false =>
    rw [if_neg Bool.false_ne_true] at e1 ⊢
    exact ⟨β, P, G1, s1, r, z', R1, e1, q.mono x1⟩
theorem dsx_raise {CX : CXT} {nm x : Str} {C fI : Addr} {k : Nat} {fd : FuncData} {p p2 pos : Pos} (hc : X.calm = true) (tk : Takes X (fun cls d _ H => W cls d H)) (T : ErrC X.K C nm) (iC : findIn X.K (.ref C) "__init__" = some (some (.ref fI))) (tI : typeIn X.K (.ref fI) = some (.type "function"))
    (F1 : FnOk X.prog X.w X.K X.mg X.base CX k fI fd ["self"] (spInit X.K)) (hr : Room (k + 1) X.A) (hb : L2.Binds X.K fd ["self"] []) (hx : Passes CX X (fun _ _ _ => False)) (hg : Gl X x) (hm : X.mg x = some (.ref C))
    (hdb : (x == ("__debug__" : Str)) = false := by decide) : DSX X W (.Raise (some (.Call (.Name x p) [] [] p2)) none pos) (kRaise nm) := by
  have pr := ps_raise (pos := pos) hc tk (pmk_err0 (p := p) (pos := p2) T iC tI F1 hr hb hx hg hm hdb)
  refine ⟨fun pins s σ H D I k => pr.run pins s σ H D I ?_⟩
  obtain ⟨β, P, G, z, r, z', R, e1, q⟩ := k
  cases e1
  intro d hd
  exact q C d σ _ _ (Ext.new (R.free hd)) (R.new hd) T ⟨_, upd_same, by rfl, fun p hp => nomatch hp⟩
end
omit [DL.Me] in
def fnDX (n : Nat) (f : DMsX) : FDX := fun ds bg => (f ⟨ds.map (fun d => some (.dat d)) ++ List.replicate (n - ds.length) none, bg⟩).bind fun p => match p.1 with
  | .rt d => some (.inl d, p.2.bag)
  | .nx => some (.inl .non, p.2.bag)
  | .ex nm => some (.inr nm, p.2.bag)
  | _ => none
section
variable {P : Program} {w : World} {K : Frag} {mg : Str → Option Value} {base : Heap}
theorem fnx_ok {x qual : Str} {st : Stmt} {f : Addr} {fd : FuncData} {N ps : List Str} {k n : Nat} {g : DMsX} (F : Fun K x qual st f fd) (S : FnScope N ps (defScope st)) (hn : ps.length = n := by rfl)
    (hb : ∀ (cdv : Value) (A : Around) (outer : List Env) (s : Shared) (H : Hp) (E : XK), Room k (A.deeper (envOfC qual (defScope st) s.heap.objs.size f cdv)) → Takes (cxOf (L2.CX P w) P w K mg base N qual (defScope st) f cdv A outer s H E) (fun cls d _ H => E cls d H) →
      DSXs (cxOf (L2.CX P w) P w K mg base N qual (defScope st) f cdv A outer s H E) E (defBody st) g) : FnOk P w K mg base (L2.CX P w) (k + 1) f fd ps (spX K n (fnDX N.length g)) := by
  refine F.okX S (fun vs H Q E h => ?_) (fun cdv A outer s H vs Q E hr h => ?_)
  · obtain ⟨β, P, G, ds, bg, r, bg', h, _⟩ := h
    rw [hn]
    exact h
  · obtain ⟨β, PP, G, ds, bg, r, bg', hl, i, R, e, q⟩ := h
    refine ⟨_, hb cdv A outer s H E hr (takes_of rfl rfl rfl rfl), ?_⟩
    unfold fnDX at e
    obtain ⟨⟨res, s'⟩, e1, e⟩ := Option.bind_eq_some_iff.mp e
    refine ⟨β, PP, G, _, res, s', rel_start i R, e1, ?_⟩
    cases res with
    | nx =>
      cases e
      exact fun σ' H' G' x R' => q .non H' G' x R'.leave (is_non.mpr rfl)
    | rt d =>
      cases e
      exact fun v σ' H' G' x R' iv => q v H' G' x R'.leave iv
    | ex nm =>
      cases e
      exact fun C dd σ' H' G' x R' ec gd => q C dd H' G' x R'.leave ec gd
    | bk => cases e
    | ct => cases e
end
end DX
set_option maxHeartbeats 4000000
namespace DX
open PySem PySem.Spec PySem.Calls PyProof.Rows PySem.W L2 LamX DL
variable [DL.Tabs] [DL.Me]
section
variable {X : Cx}
theorem de_try {fl : List (Str × Str)} {T1 T2 T3 g c Pt : Addr} {x a e0 : Str} {k : Nat} {pg : Arguments} {bg : List Stmt} {sg : Scope} {dV kV doc pm cdv ct oc : Value} {an od : Option Addr} {osl : Array (Option Value)} {Ng : List Str} {params : Arguments} {body : Expr} {scope : Scope} {f : DMX} {p lpos pos : Pos}
    (hT : ∀ C nm, ErrC X.K C nm → exmAny X.K (.ref C) [.ref T1, .ref T2, .ref T3] = some true) (hg : Gl X x) (hm : X.mg x = some (.ref g)) (hk : keepIn X.K (.ref g) = true)
    (lk : X.K.lookup g = some ⟨oc, od, .func (fnOf x x pg bg sg dV kV doc pm an cdv ct), osl⟩) (hcg : codeIn X.K cdv x = true) (hb : L2.Binds X.K (fnOf x x pg bg sg dV kV doc pm an cdv ct) [a] []) (Sg : FnScope Ng [a] sg) (hNg : Ng[0]? = some a) (hva : Vis sg a)
    (hG : GivesTo X Ng x sg g cdv bg a (X.env.qual ++ "<lambda>") (TTtry X.K fl T1 T2 T3 e0)) (hmT : (Pt, X.env.qual ++ "<lambda>") ∈ Tabs.ts) (TB : TabB X.base X.mg c Pt) (hcode : X.env.code = .ref c) (hr : Room (k + 2) X.A) (L : LamS X.env.scope scope) (hdef : defaultsOf params X.env = ([], []))
    (hbind : ∀ (q : Str) (cl : List (Str × Addr)) (pm cv ctv : Value), bindArgs (kla_fn "<lambda>" q params body scope cl pm cv ctv) ⟨[], []⟩ = pure [])
    (hbody : ∀ (A : Around) (outer : List Env) (s : Shared) (H : Hp) (E : XK) (fa c' : Addr), Room k (A.deeper (lamEnv X scope s.heap.objs.size fa c')) → DEX (lamCx X A outer s H E scope fa c') E body f)
    (hdb : (x == ("__debug__" : Str)) = false := by decide) (hd : (a == ("__debug__" : Str)) = false := by decide) (hcd : (a == ("__classdict__" : Str)) = false := by decide) :
    DE X (.Call (.Name x p) [.Lambda params body scope lpos] [] pos) (mTry fl e0 f) :=
  ⟨_, pe_lamcall (T := Tabs.ts) (t := fun E => tOfX X.K f E) hg hm hk lk hcg hb Sg hNg hva hG TB hcode hmT (fun p hp e => Tabs.uq p hp _ hmT e) hr L hdef hbind hbody hdb hd hcd, te_try hT⟩
end
end DX
set_option maxHeartbeats 4000000
namespace DX
open PySem PySem.Spec PySem.Calls PyProof.Rows PySem.W L2 DL
variable [DL.Tabs] [DL.Me]
omit [DL.Me] in
def loopX (h : Dt → Sta → Option Sta) (b : DMsX) : List Dt → DMsX
  | [], s => some (.nx, s)
  | d :: r, s => (h d s).bind fun s1 => (b s1).bind fun p => match p.1 with
    | .nx => loopX h b r p.2
    | .ct => loopX h b r p.2
    | .bk => some (.nx, p.2)
    | .rt v => some (.rt v, p.2)
    | .ex nm => some (.ex nm, p.2)
omit [DL.Me] in
def kForX (f : DM (List Dt)) (h : Dt → Sta → Option Sta) (b : DMsX) : DMsX := fun s => (f s).bind fun p => loopX h b p.1 p.2
section
variable {X : Cx} {W : XK}
theorem dsx_for {tg iter : Expr} {body : List Stmt} {f : DM (List Dt)} {is : List Nat} {h : Dt → Sta → Option Sta} {b : DMsX} {pos : Pos} (hp : PassesOwn (model X.prog X.w) X.A X.env X.xe) (hc : X.calm = true) (hi : DI X tg iter f) (hg : DG X tg is h) (hb : DSXs X W body b)
    (hs : ∀ x, foldedSetIterable iter X.env x = pure x := by intro _; rfl) : DSX X W (.For tg iter body [] pos) (kForX f h b) := by
  obtain ⟨wi, p1, o1⟩ := hi
  obtain ⟨g, p2, o2⟩ := hg
  have pf := ps_for (pos := pos) hp hc p1 p2 hb hs
  refine ⟨fun pins s0 σ H D I kk => pf.run pins s0 σ H D I ?_⟩
  obtain ⟨β, P, G, s, r, s', R, e, k⟩ := kk
  unfold kForX at e
  obtain ⟨⟨l, s1⟩, e1, e⟩ := Option.bind_eq_some_iff.mp e
  refine o1 β P σ H G s l s1 R e1 _ fun J H1 G1 Gd Y x1 R1 wk hG hY => ?_
  refine for_it wk (fun i σ2 H2 => ∃ G2 s2, Ext G1 G2 ∧ Rel X.K β P σ2 H2 G2 s2 ∧ loopX h b (l.drop i) s2 = some (r, s')) ⟨G1, s1, Ext.refl G1, R1, e⟩ (fun i σ2 H2 hi ⟨G2, s2, x2, R2, _⟩ => hG H2 G2 x2 R2.gh) ?_ ?_
  · rintro i x σ2 H2 H3 hi ⟨G2, s2, x2, R2, e2⟩ y
    have hd : l[i]? = some l[i] := List.getElem?_eq_getElem hi
    obtain ⟨G3, x3, R3, i3⟩ := hY i l[i] H2 x H3 P σ2 G2 s2 hd x2 R2 y
    rw [List.drop_eq_getElem_cons hi] at e2
    unfold loopX at e2
    obtain ⟨s3, e3, e2⟩ := Option.bind_eq_some_iff.mp e2
    obtain ⟨⟨res, s4⟩, e4, e2⟩ := Option.bind_eq_some_iff.mp e2
    refine o2 β P σ2 H3 G3 s2 l[i] x s3 R3 i3 e3 _ fun σ4 H4 G4 x4 R4 _ _ => ?_
    refine ⟨β, P, G4, s3, res, s4, R4, e4, ?_⟩
    have xx := ((x1.trans x2).trans x3).trans x4
    cases res with
    | nx => exact fun σ5 H5 G5 x5 R5 => ⟨G5, s4, ((x2.trans x3).trans x4).trans x5, R5, e2⟩
    | ct => exact fun σ5 H5 G5 x5 R5 => ⟨G5, s4, ((x2.trans x3).trans x4).trans x5, R5, e2⟩
    | bk => cases e2; exact fun σ5 H5 G5 x5 R5 => k σ5 H5 G5 (xx.trans x5) R5
    | rt d => cases e2; exact fun v σ5 H5 G5 x5 R5 i5 => k v σ5 H5 G5 (xx.trans x5) R5 i5
    | ex nm => cases e2; exact fun C dd σ5 H5 G5 x5 R5 ec gd => k C dd σ5 H5 G5 (xx.trans x5) R5 ec gd
  · rintro σ2 H2 ⟨G2, s2, x2, R2, e2⟩
    rw [List.drop_length] at e2
    cases e2
    exact k σ2 H2 G2 (x1.trans x2) R2
theorem dssx_nil : DSXs X W [] (kVal kSkip) := dssx_val dss_nil
end
end DX
namespace DX
open PySem PySem.Spec PySem.Calls PyProof.Rows PySem.W L2 LamX DL
variable [DL.Tabs] [DL.Me]
variable [DL.Tabs] [DL.Me]
theorem errAt.mono {K : Frag} {β : Addr} {P : Hp} {σ : L2.St} {G G1 : Hp} {s : Sta} {W : XK} {er : Er} (e : Ext G G1) (h : errAt K β P σ G s W er) : errAt K β P σ G1 s W er := fun C dd H' G' x R => h C dd H' G' (e.trans x) R
omit [DL.Me] in
/-- what the heap's fixed part says of an own class of errors -/
structure ErrB (K : Frag) (C : Addr) (x : Str) (T1 T2 T3 : Addr) : Prop where
  rd : readsIn K C (.type "type") = true
  fc : findCls K (.ref C) (.type "type") "__name__" = some (.get (.builtin "getset_descriptor.__get__") (.builtin "type.__name__") (.ref C) (.type "type"))
  nm : nameIn K C = some x
  noc : findIn K (.ref C) "code" = some none
  hg : findIn K (.ref C) "__getattribute__" = some (some (.builtin "BaseException.__getattribute__"))
  hk : findIn K (.ref C) "__getattr__" = some none
  hs : subIn K (.ref C) (.type "BaseException") = some true
  hd : hasDictIn K C = true
  ha : findIn K (.ref C) "__class__" = some (some (.builtin "object.__class__"))
  hn : specialIn K (.builtin "object.__class__") "__get__" = some (some (.builtin "getset_descriptor.__get__"))
  ht : takesIn K (.builtin "object.__class__") = some true
  hm : mroIn K C (.type "object") = some true
  sa : findIn K (.ref C) "__setattr__" = some (some (.builtin "object.__setattr__"))
  tyC : typeIn K (.ref C) = some (.type "type")
  kC : keepIn K (.ref C) = true
  am : exmAny K (.ref C) [.ref T1, .ref T2, .ref T3] = some true
  nf : (errFields.all fun f => noField K C f) = true
  ns : subIn K (.ref C) (.type "StopIteration") = some false
theorem ErrB.to {K : Frag} {C : Addr} {x : Str} {T1 T2 T3 : Addr} (B : ErrB K C x T1 T2 T3) (h1 : nsIn K mainGlobals "TableError" = some (some (.ref T1))) (h2 : nsIn K mainGlobals "Missing" = some (some (.ref T2))) (h3 : nsIn K mainGlobals "NothingLeft" = some (some (.ref T3)))
    (hc : ∃ nm q N bs bm sn sub ab col dd k0 k1 k2 k3 k5, K.lookup C = some (excClassObj nm q C N bs bm true sn sub ab col dd k0 k1 k2 k3 k5 "ValueError.__new__") ∧ PySem.HandSPX.refsVE bm = true) : ErrC K C x where
  oex := OexG.of ⟨hc, B.sa, B.hs, B.tyC, B.kC⟩
  exc := ⟨B.hg, B.hk, B.hs, B.hd, B.ha, B.hn, B.ht, B.hm⟩
  rd := B.rd
  fc := B.fc
  nm := B.nm
  noc := B.noc
  nf := B.nf
  ns := B.ns
  ca := fun S1 S2 S3 g1 g2 g3 => by
    rw [h1] at g1
    rw [h2] at g2
    rw [h3] at g3
    cases g1
    cases g2
    cases g3
    exact B.am
omit [DL.Me] in
/-- the class x at C, its __init__ at fI -/
structure ErrK (K : Frag) (mg : Str → Option Value) (x : Str) (fI : Addr) : Prop where
  ex : ∃ C, mg x = some (.ref C) ∧ ErrC K C x ∧ findIn K (.ref C) "__init__" = some (some (.ref fI)) ∧ typeIn K (.ref fI) = some (.type "function")
section
variable {X : Cx} {W : XK}
theorem dsx_raiseK {x : Str} {fI : Addr} {k : Nat} {fd : FuncData} {p p2 pos : Pos} (T : ErrK X.K X.mg x fI) (tk : Takes X (fun cls d _ H => W cls d H)) (hr : Room (k + 1) X.A)
    (F1 : FnOk X.prog X.w X.K X.mg X.base CX0 k fI fd ["self"] (spInit X.K)) (hb : L2.Binds X.K fd ["self"] []) (hg : Gl X x) (hc : X.calm = true := by rfl) (hdb : (x == ("__debug__" : Str)) = false := by decide) : DSX X W (.Raise (some (.Call (.Name x p) [] [] p2)) none pos) (kRaise x) := by
  obtain ⟨C, m, T, i, t⟩ := T.ex
  exact dsx_raise hc tk T i t F1 hr hb (fun _ _ _ _ _ _ _ h => h.elim) hg m hdb
end
section
variable {X : Cx}
theorem de_tryF {fl : List (Str × Str)} {T1 T2 T3 g c Pt : Addr} {st : Stmt} {fd : FuncData} {Ng : List Str} {x a e0 : Str} {k : Nat} {params : Arguments} {body : Expr} {scope : Scope} {f : DMX} {p lpos pos : Pos} (F : Fun X.K x x st g fd) (Sg : FnScope Ng [a] (defScope st))
    (h1 : nsIn X.K mainGlobals "TableError" = some (some (.ref T1))) (h2 : nsIn X.K mainGlobals "Missing" = some (some (.ref T2))) (h3 : nsIn X.K mainGlobals "NothingLeft" = some (some (.ref T3)))
    (hg : Gl X x) (hm : X.mg x = some (.ref g)) (hb : L2.Binds X.K fd [a] []) (hNg : Ng[0]? = some a) (hva : Vis (defScope st) a)
    (hG : ∀ cdv : Value, GivesTo X Ng x (defScope st) g cdv (defBody st) a (X.env.qual ++ "<lambda>") (TTtry X.K fl T1 T2 T3 e0)) (hmT : (Pt, X.env.qual ++ "<lambda>") ∈ Tabs.ts) (TB : TabB X.base X.mg c Pt) (hcode : X.env.code = .ref c) (hr : Room (k + 2) X.A) (L : LamS X.env.scope scope) (hdef : defaultsOf params X.env = ([], []))
    (hbind : ∀ (q : Str) (cl : List (Str × Addr)) (pm cv ctv : Value), bindArgs (kla_fn "<lambda>" q params body scope cl pm cv ctv) ⟨[], []⟩ = pure [])
    (hbody : ∀ (A : Around) (outer : List Env) (s : Shared) (H : Hp) (E : XK) (fa c' : Addr), Room k (A.deeper (lamEnv X scope s.heap.objs.size fa c')) → Takes (lamCx X A outer s H E scope fa c') (fun cls d _ H => E cls d H) → DEX (lamCx X A outer s H E scope fa c') E body f)
    (hdb : (x == ("__debug__" : Str)) = false := by decide) (hd : (a == ("__debug__" : Str)) = false := by decide) (hcd : (a == ("__classdict__" : Str)) = false := by decide) :
    DE X (.Call (.Name x p) [.Lambda params body scope lpos] [] pos) (mTry fl e0 f) := by
  obtain ⟨oc, od, kV, doc, pm, an, cdv, ct, osl, rfl, lk, hcg⟩ := F.ex
  exact de_try (fun C nm T => T.ca _ _ _ h1 h2 h3) hg hm F.kp lk hcg hb Sg hNg hva (hG cdv) hmT TB hcode hr L hdef hbind (fun A outer s H E fa c' hr' => hbody A outer s H E fa c' hr' (takes_of rfl rfl rfl rfl)) hdb hd hcd
end
end DX
namespace DX
open PySem PySem.Spec PySem.Calls PyProof.Rows PySem.W L2 LamX DL
open L2H (RoomH)
variable [DL.Tabs] [DL.Me]
omit [DL.Me] in
/-- the table of a code object -/
def tabOf (K : Frag) (c : Addr) : Option Addr := match K.lookup c with
  | some ⟨_, _, .fields vs, _⟩ => (match vs.getD 11 .none with
    | .ref P => some P
    | _ => none)
  | _ => none
omit [DL.Me] in
structure FunC (K : Frag) (x qual : Str) (st : Stmt) (f : Addr) (fd : FuncData) (c : Addr) : Prop where
  ex : ∃ (oc : Value) (od : Option Addr) (kV doc pm : Value) (an : Option Addr) (ct : Value) (osl : Array (Option Value)),
    fd = fnOf x qual (defArgs st) (defBody st) (defScope st) .none kV doc pm an (.ref c) ct ∧ K.lookup f = some ⟨oc, od, .func fd, osl⟩ ∧ codeIn K (.ref c) qual = true
section
variable {P : Program} {w : World} {K : Frag} {mg : Str → Option Value} {base : Heap}
theorem FunC.ok {x qual : Str} {st : Stmt} {f c : Addr} {fd : FuncData} {N ps : List Str} {k : Nat} {sp : Sp} (F : FunC K x qual st f fd c) (S : FnScope N ps (defScope st)) (len : ∀ vs H Q E, sp vs H Q E → vs.length = ps.length)
    (hbody : ∀ (A : Around) (outer : List Env) (s : Shared) (H : Hp) (vs : List V) (Q : VK) (E : XK), Room k (A.deeper (envOfC qual (defScope st) s.heap.objs.size f (.ref c))) → sp vs H Q E →
      ∃ t, PSs (cxOf L2.CX0 P w K mg base N qual (defScope st) f (.ref c) A outer s H E).nox (defBody st) t ∧ t { nx := fun _ H' => Q .non H', rt := Q } (L2.start N vs) H) : FnOk P w K mg base L2.CX0 (k + 1) f fd ps sp := by
  obtain ⟨oc, od, kV, doc, pm, an, ct, osl, rfl, lk, hcd⟩ := F.ex
  refine fn_of lk hcd S len fun A outer s H vs Q E hr hsp => ?_
  obtain ⟨t, h, q⟩ := hbody A outer s H vs Q E hr hsp
  exact ⟨t, h.nox, q⟩
/-- _law_field -/
theorem fs_field {x y : Str} {st : Stmt} {f : Addr} {fd : FuncData} {N : List Str} {k : Nat} {fl : List (Str × Str)} (F : Fun K x x st f fd) (S : FnScope N [y] (defScope st)) (B : FieldB y (defBody st) fl) (hN : N[0]? = some y := by rfl) (h0 : ∀ v : V, (L2.start N [v])[0]? = some (some v) := by exact fun _ => rfl)
    (dy : (y == ("__debug__" : Str)) = false := by decide) (cy : (y == ("__classdict__" : Str)) = false := by decide) : FnS P w K mg base (k + 1) f fd [y] (spField K fl) := by
  obtain ⟨oc, od, kV, doc, pm, an, cdv, ct, osl, rfl, lk, hcd⟩ := F.ex
  exact fn_field lk hcd S B hN h0 dy cy
/-- TableError's __init__ -/
theorem ok_init {qual : Str} {st : Stmt} {f : Addr} {fd : FuncData} {N : List Str} {k : Nat} {CX : CXT} {p1 p2 p3 p4 p5 p6 : Pos} (F : Fun K "__init__" qual st f fd) (S : FnScope N ["self"] (defScope st)) (hN : N[0]? = some ("self" : Str)) (hv : Vis (defScope st) "self") (h0 : ∀ v : V, (L2.start N [v])[0]? = some (some v))
    (hb : defBody st = [.Assign [.Attribute (.Name "self" p1) "code" p2] (.Attribute (.Attribute (.Name "self" p3) "__class__" p4) "__name__" p5) p6] := by rfl) : FnOk P w K mg base CX (k + 1) f fd ["self"] (spInit K) := by
  obtain ⟨oc, od, kV, doc, pm, an, cdv, ct, osl, rfl, lk, hcd⟩ := F.ex
  rw [hb] at lk ⊢
  exact fn_init0 lk hcd S hN hv h0
end
theorem room_mark {A : Around} {k : Nat} {env : Env} {b : Option Value} (hr : Room (k + 1) A) : RoomH k ((A.deeper env).mark b) := ⟨(hr.deeper env).dp, (hr.deeper env).un⟩
end DX
set_option maxHeartbeats 4000000
namespace DX
open PySem PySem.Spec PySem.Calls PyProof.Rows PySem.W L2 LamX DL
open L2H (RoomH)
variable [DL.Tabs] [DL.Me]
omit [DL.Me] in
def grd (h : Heap) (H : Hp) (l : List Env) : Heap := hideAll h (trk h H ++ frs l)
section
variable {h : Heap} {H : Hp} {l : List Env} {b : Addr} {o : Obj}
theorem grd_of (e : (grd h H l).get? b = some o) : h.get? b = some o ∧ H b = none ∧ b ∉ frs l := by
  have e1 := of_hideAll _ e
  have nin : b ∉ trk h H ++ frs l := fun z => by
    have q := hideAll_none (h := h) _ z
    unfold grd at e
    rw [q] at e
    cases e
  refine ⟨e1, ?_, fun z => nin (List.mem_append_right _ z)⟩
  cases q : H b with
  | none => rfl
  | some x => exact absurd (List.mem_append_left _ (List.mem_filter.mpr ⟨List.mem_range.mpr (Heap.lt_size e1), by simp [q]⟩)) nin
theorem grd_in (e : h.get? b = some o) (n : H b = none) (f : b ∉ frs l) : (grd h H l).get? b = some o := hideAll_get _ e fun z => by
  rcases List.mem_append.mp z with z | z
  · have q := (List.mem_filter.mp z).2
    rw [n] at q
    cases q
  · exact f z
end
section
variable {X : Cx} {pins : List (Addr × Obj)} {σ : L2.St} {H : Hp} {s : Shared}
theorem grd_base (I : Inv X pins σ H s) : ∀ b o, X.base.get? b = some o → (grd s.heap H X.stack).get? b = some o := fun b o e => by
  obtain ⟨h1, h2⟩ := I.bs b o e
  refine grd_in h1 h2 fun z => ?_
  rcases List.mem_cons.mp (I.stkSub b z) with q | q
  · have k : X.base.objs.size ≤ X.env.locals := Nat.le_trans I.ok.bsz I.ok.above
    rw [← q] at k
    exact Nat.lt_irrefl _ (Nat.lt_of_lt_of_le (Heap.lt_size e) k)
  · exact I.ok.nofr e q
theorem frs_in : ∀ {l : List Env} {e : Env} {a : Addr}, e ∈ l → e.frame = some a → a ∈ frs l := fun {l e a} h k => List.mem_filterMap.mpr ⟨e, h, k⟩
theorem grd_env0 (I : Inv X pins σ H s) : Env0 X.prog X.w X.K X.mg (grd s.heap H X.stack) X.A X.stack s H := by
  have k := grd_base I
  have M := I.ok.mod
  exact {
    frames := I.ok.frames
    mod := { kin := M.kin.keeps k, glob := M.glob.keeps k, blt := (let ⟨mb, n1, n2⟩ := M.blt; ⟨mb, n1.keeps k, n2⟩), nolimit := M.nolimit.keeps k }
    bs := fun b o e => ⟨(grd_of e).1, (grd_of e).2.1⟩
    bsz := Nat.le_of_eq (hideAll_size _ _)
    funs := funFrames_hide I.stack fun env he a ha => List.mem_append_right _ (frs_in he ha)
    frf := I.stkFree
    hok := I.hok
    bare := I.bare }
end
omit [DL.Me] in
abbrev lamFn (X : Cx) (params : Arguments) (body : Expr) (scope : Scope) (dV doc pm : Value) (c' : Addr) (ctv : Value) : FuncData :=
  kdv_fn "<lambda>" (X.env.qual ++ "<lambda>") params (.expr body) scope (cloFrom X.env.cells scope.names []) dV doc pm (.ref c') ctv
omit [DL.Me] in
abbrev lamOb (X : Cx) (params : Arguments) (body : Expr) (scope : Scope) (dV doc pm : Value) (c' : Addr) (ctv : Value) : Obj :=
  { cls := .type "function", data := .func (lamFn X params body scope dV doc pm c' ctv) }
omit [DL.Me] in
def Sub (g g' : Heap) : Prop := ∀ b o, g.get? b = some o → g'.get? b = some o
theorem Sub.refl (g : Heap) : Sub g g := fun _ _ e => e
theorem Sub.trans {a b c : Heap} (x : Sub a b) (y : Sub b c) : Sub a c := fun p o e => y p o (x p o e)
omit [DL.Me] in
/-- it lives in the ground g; called without arguments it binds names of its own alone -/
def Lv (X : Cx) (g : Heap) (params : Arguments) (body : Expr) (scope : Scope) (f c' : Addr) : Prop :=
  ∃ dV doc pm ctv bs, ∃ l : List (Addr × Obj), g.get? f = some (lamOb X params body scope dV doc pm c' ctv) ∧ (∀ y ∈ bs, scope.names.lookup y.1 = some .local) ∧ (∀ p ∈ l, g.get? p.1 = some p.2 ∧ ∀ v, p.2.data ≠ .cell v) ∧
    ∀ s : Shared, (∀ p ∈ l, s.heap.get? p.1 = some p.2) → BindsTo s (lamFn X params body scope dV doc pm c' ctv) ⟨[], []⟩ bs
theorem Lv.mono {X : Cx} {g g' : Heap} {params : Arguments} {body : Expr} {scope : Scope} {f c' : Addr} (h : Lv X g params body scope f c') (e : Sub g g') : Lv X g' params body scope f c' := by
  obtain ⟨dV, doc, pm, ctv, bs, l, h1, h2, h4, h3⟩ := h
  exact ⟨dV, doc, pm, ctv, bs, l, e _ _ h1, h2, fun p hp => ⟨e _ _ (h4 p hp).1, (h4 p hp).2⟩, h3⟩
section
variable {X : Cx} {pins : List (Addr × Obj)} {σ : L2.St} {H : Hp} {s : Shared}
/-- new at the heap's end -/
theorem nof (I : Inv X pins σ H s) {f : Addr} (hf : s.heap.objs.size ≤ f) : f ∉ frs X.stack := fun z => by
  rcases List.mem_cons.mp (I.stkSub _ z) with e | e
  · have q := I.lt
    rw [← e] at q
    exact Nat.lt_irrefl _ (Nat.lt_of_lt_of_le q hf)
  · exact I.nofs hf e
theorem tail_made {T : List (Addr × Str)} {c Pt : Addr} {params : Arguments} {body : Expr} {scope : Scope} {pos : Pos} {dV : Value} {E Q : Value → Shared → Prop} (I : Inv X pins σ H s) (TB : TabB X.base X.mg c Pt) (hcode : X.env.code = .ref c)
    (hm : (Pt, X.env.qual ++ "<lambda>") ∈ T) (hu : ∀ p ∈ T, p.1 = Pt → p.2 = X.env.qual ++ "<lambda>") (hT : LamX.Tabs T H) (hfree : ∀ y ∈ scope.names, y.2 = .free → ∃ c, X.env.cells.lookup y.1 = some c)
    (h : ∀ (f c' : Addr) (doc pm ctv : Value) (H1 : Hp) (s' : Shared), Inv X pins σ H1 s' → ExtN H H1 → LamX.Tabs T H1 → Sub (grd s.heap H X.stack) (grd s'.heap H1 X.stack) →
      (grd s'.heap H1 X.stack).get? f = some (lamOb X params body scope dV doc pm c' ctv) → H1 c' = some (CodeO c' (X.env.qual ++ "<lambda>")) → Q (.ref f) s') :
    wpAny (model X.prog X.w) X.A (makeTail "<lambda>" (X.env.qual ++ "<lambda>") params (.expr body) scope X.env dV .none .none pos pos.line) Q E s := by
  obtain ⟨ps, hP, ht, ha⟩ := hT _ hm
  have bP := TB.bm.keeps I.bk
  have hP' := I.hok Pt _ hP
  have stay : ∀ {b o}, (grd s.heap H X.stack).get? b = some o → b ≠ Pt := fun {b o} e z => by
    have q := (grd_of e).2.1
    rw [z, hP] at q
    cases q
  cases hc : codeAmong pos ps.toList with
  | none =>
    refine kdv_makeTail (mg := X.mg) (closure_ok hfree) I.ok.glob (I.mod.glob.keeps I.bk) hcode (TB.code.keeps I.bk) hP' ht hc TB.gP bP fun c' ctv doc h' tk hx hge hlt hrec htb => ?_
    obtain ⟨c2, oc, vs, t, e2, hoc, hd, hv⟩ := hrec
    obtain rfl : c' = c2 := by cases e2; rfl
    have hsz : s.heap.objs.size ≤ h'.objs.size := Nat.le_of_lt (Nat.lt_of_le_of_lt hge hlt)
    have nC : H c' = none := I.hok.fresh hge
    generalize hO : lamOb X params body scope dV doc ((X.mg "__name__").getD .none) c' ctv = O
    have I1 := inv_table (t' := tk) (more := #[rawInt pos.line, rawInt pos.col, .ref c']) (h' := h'.push O) I hP (fun b o hb e => Heap.get?_push_of_some _ (hx b o hb e)) (Heap.get?_push_of_some _ htb) hge ⟨oc, vs, t, Heap.get?_push_of_some _ hoc, hd, hv⟩
    generalize hH1 : upd (upd H Pt (.tbl (ps ++ #[rawInt pos.line, rawInt pos.col, .ref c']))) c' (CodeO c' (X.env.qual ++ "<lambda>")) = H1 at I1
    have at1 : ∀ {b}, b ≠ Pt → b ≠ c' → H1 b = H b := fun {b} n1 n2 => by rw [← hH1, upd_ne n2, upd_ne n1]
    have atC : H1 c' = some (CodeO c' (X.env.qual ++ "<lambda>")) := by rw [← hH1, upd_same]
    have nPc : Pt ≠ c' := ne_of_none hP nC
    have atP : H1 Pt = some (.tbl (ps ++ #[rawInt pos.line, rawInt pos.col, .ref c'])) := by rw [← hH1, upd_ne nPc, upd_same]
    have eN : ExtN H H1 := fun b o e n => by
      rw [at1 (fun z => ?_) (ne_of_none e nC)]
      · exact e
      · rw [z, hP] at e
        exact n ps (Option.some.inj e).symm
    have nf : H1 h'.objs.size = none := by
      rw [at1 (fun z => ?_) (Nat.ne_of_gt hlt)]
      · exact I.hok.fresh hsz
      · have q := Heap.lt_size hP'
        rw [← z] at q
        exact Nat.lt_irrefl _ (Nat.lt_of_lt_of_le q hsz)
    have eL : (ps ++ #[rawInt pos.line, rawInt pos.col, .ref c']).toList = ps.toList ++ [rawInt pos.line, rawInt pos.col, .ref c'] := by simp
    show Q (.ref h'.objs.size) { s with heap := h'.push (lamOb X params body scope dV doc ((X.mg "__name__").getD .none) c' ctv), toks := tk }
    rw [hO]
    refine h h'.objs.size c' doc ((X.mg "__name__").getD .none) ctv H1 _ I1 eN (fun p hp => ?_) (fun b o e => ?_) ?_ atC
    · by_cases hb : p.1 = Pt
      · rw [hu p hp hb, hb]
        refine ⟨_, atP, by rw [eL]; exact PySem.TriplesOk_snoc _ _ _ _ ht, fun p' cv hcv => ?_⟩
        rw [eL] at hcv
        rcases among_app _ ht hcv with z | z
        · obtain ⟨c0, e1, e2⟩ := ha p' cv z
          exact ⟨c0, e1, eN _ _ e2 codeO_ne⟩
        · exact ⟨c', z, atC⟩
      · obtain ⟨ps', a1, a2, a3⟩ := hT p hp
        refine ⟨ps', (at1 hb (ne_of_none a1 nC)).trans a1, a2, fun p' cv hcv => ?_⟩
        obtain ⟨c0, e1, e2⟩ := a3 p' cv hcv
        exact ⟨c0, e1, eN _ _ e2 codeO_ne⟩
    · obtain ⟨g1, g2, g3⟩ := grd_of e
      have n1 := stay e
      have n2 : b ≠ c' := Nat.ne_of_lt (Nat.lt_of_lt_of_le (Heap.lt_size g1) hge)
      exact grd_in (Heap.get?_push_of_some _ (hx b o n1 g1)) ((at1 n1 n2).trans g2) g3
    · rw [← hO]
      exact grd_in (Heap.get?_push_size _ rfl) nf (nof I hsz)
  | some cv =>
    obtain ⟨c', e, hco⟩ := ha pos cv hc
    subst e
    refine kdv_makeTailHit (mg := X.mg) (closure_ok hfree) I.ok.glob (I.mod.glob.keeps I.bk) hcode (TB.code.keeps I.bk) hP' ht hc bP fun ctv doc h' tk hx hsz => ?_
    generalize hO : lamOb X params body scope dV doc ((X.mg "__name__").getD .none) c' ctv = O
    have I1 : Inv X pins σ H { s with heap := h'.push O, toks := tk } := I.kept fun b o e => Heap.get?_push_of_some _ (hx b o e)
    show Q (.ref h'.objs.size) { s with heap := h'.push (lamOb X params body scope dV doc ((X.mg "__name__").getD .none) c' ctv), toks := tk }
    rw [hO]
    refine h h'.objs.size c' doc ((X.mg "__name__").getD .none) ctv H _ I1 (ExtN.refl H) hT (fun b o e => ?_) ?_ hco
    · obtain ⟨g1, g2, g3⟩ := grd_of e
      exact grd_in (Heap.get?_push_of_some _ (hx b o g1)) g2 g3
    · rw [← hO]
      exact grd_in (Heap.get?_push_size _ rfl) (I.hok.fresh hsz) (nof I hsz)
end
omit [DL.Me] in
/-- the expression makes such a lambda -/
def Makes (X : Cx) (T : List (Addr × Str)) (e : Expr) (params : Arguments) (body : Expr) (scope : Scope) : Prop :=
  ∀ (pins : List (Addr × Obj)) (σ : L2.St) (H : Hp) (s : Shared) (Q E : Value → Shared → Prop), Inv X pins σ H s → LamX.Tabs T H →
    (∀ (f c' : Addr) (H1 : Hp) (s' : Shared), Inv X pins σ H1 s' → ExtN H H1 → LamX.Tabs T H1 → Sub (grd s.heap H X.stack) (grd s'.heap H1 X.stack) → Lv X (grd s'.heap H1 X.stack) params body scope f c' → H1 c' = some (CodeO c' (X.env.qual ++ "<lambda>")) → Q (.ref f) s') →
    wpAny (model X.prog X.w) X.A (eval e X.env) Q E s
section
variable {X : Cx} {T : List (Addr × Str)} {c Pt : Addr} {params : Arguments} {body : Expr} {scope : Scope} {pos : Pos}
theorem makes_plain (TB : TabB X.base X.mg c Pt) (hcode : X.env.code = .ref c) (hm : (Pt, X.env.qual ++ "<lambda>") ∈ T) (hu : ∀ p ∈ T, p.1 = Pt → p.2 = X.env.qual ++ "<lambda>") (hfree : X.Ok → ∀ y ∈ scope.names, y.2 = .free → ∃ c, X.env.cells.lookup y.1 = some c)
    (hdef : defaultsOf params X.env = ([], [])) (hbind : ∀ (q : Str) (cl : List (Str × Addr)) (doc pm cv ctv : Value), bindArgs (kdv_fn "<lambda>" q params (.expr body) scope cl .none doc pm cv ctv) ⟨[], []⟩ = pure []) :
    Makes X T (.Lambda params body scope pos) params body scope := by
  intro pins σ H s Q E I hT h
  refine kla_eval hdef ?_
  rw [makeFunction_eq]
  simp only [List.zip_nil_right, List.filterMap_nil, List.isEmpty_nil, if_true, pure_bind]
  exact tail_made I TB hcode hm hu hT (hfree I.ok) fun f c' doc pm ctv H1 s' I1 x1 t1 k1 g1 c1 => h f c' H1 s' I1 x1 t1 k1 ⟨.none, doc, pm, ctv, [], [], g1, (by intro y z; cases z), (by intro y z; cases z), fun _ _ => BindsTo.of_eq (hbind _ _ _ _ _ _)⟩ c1
/-- one parameter with a whole number for a default -/
theorem makes_int {y : Str} {i : Int} {j : Nat} {p : Pos} (TB : TabB X.base X.mg c Pt) (hcode : X.env.code = .ref c) (hm : (Pt, X.env.qual ++ "<lambda>") ∈ T) (hu : ∀ p ∈ T, p.1 = Pt → p.2 = X.env.qual ++ "<lambda>") (hfree : X.Ok → ∀ y ∈ scope.names, y.2 = .free → ∃ c, X.env.cells.lookup y.1 = some c)
    (hd : params.defaults = [.Constant (.int i) j p]) (hk : params.kw_defaults = []) (hy : scope.names.lookup y = some .local)
    (hbind : ∀ (t : Addr) (q : Str) (cl : List (Str × Addr)) (doc pm cv ctv : Value), ∃ k : Option (Array Value) → Sem (List (Str × Value)), bindArgs (kdv_fn "<lambda>" q params (.expr body) scope cl (.ref t) doc pm cv ctv) ⟨[], []⟩ = seqItems? (.ref t) >>= k ∧ ∀ u, k (some #[u]) = pure [(y, u)]) :
    Makes X T (.Lambda params body scope pos) params body scope := by
  intro pins σ H s Q E I hT h
  refine kdv_lam (by rw [hd]; rfl) hk ?_
  rw [hd]
  refine kdv_all1 (wpAny_Constant_int (kdv_all0 ?_))
  rw [makeFunction_eq]
  simp only [List.zip_nil_right, List.filterMap_nil, List.isEmpty_nil, List.isEmpty_cons, Bool.false_eq_true, if_false, if_true, pure_bind]
  refine wpAny_bind (wpAny_newTextTuple ?_)
  have kp : ∀ b o, s.heap.get? b = some o → (s.heap.push (kdv_tup [.int i s.toks])).get? b = some o := fun b o e => Heap.get?_push_of_some _ e
  have I2 : Inv X pins σ H { s with heap := s.heap.push (kdv_tup [.int i s.toks]), toks := s.toks + 1 } := (I.tok (s.toks + 1)).kept kp
  refine tail_made I2 TB hcode hm hu hT (hfree I.ok) fun f c' doc pm ctv H1 s' I3 x1 t1 k1 g1 c1 => ?_
  have here : (grd s'.heap H1 X.stack).get? s.heap.objs.size = some (kdv_tup [.int i s.toks]) := k1 _ _ (grd_in (Heap.get?_push_size _ rfl) (I.hok.fresh (Nat.le_refl _)) (nof I (Nat.le_refl _)))
  refine h f c' H1 s' I3 x1 t1 (Sub.trans (fun b o e => ?_) k1) ⟨.ref s.heap.objs.size, doc, pm, ctv, [(y, .int i s.toks)], [(s.heap.objs.size, kdv_tup [.int i s.toks])], g1, ?_, (fun p hp => by rw [List.mem_singleton.mp hp]; exact ⟨here, fun v z => by cases z⟩), fun s0 k0 => ?_⟩ c1
  · obtain ⟨e1, e2, e3⟩ := grd_of e
    exact grd_in (kp _ _ e1) e2 e3
  · intro z hz
    rw [List.mem_singleton.mp hz]
    exact hy
  · obtain ⟨k, b1, b2⟩ := hbind s.heap.objs.size (X.env.qual ++ "<lambda>") (cloFrom X.env.cells scope.names []) doc pm (.ref c') ctv
    exact BindsTo.of_defaults (T := s.heap.objs.size) rfl (k0 _ List.mem_cons_self) rfl b1 (b2 _)
end
omit [DL.Me] in
/-- names of its own stand in no slot of the maker -/
structure LamS2 (N : List Str) (sc scope : Scope) : Prop where
  kind : scope.kind = .function
  co : scope.isCoroutine = false
  gen : scope.isGenerator = false
  cell : ∀ y ∈ scope.names, y.2 ≠ .cell
  own : ∀ y ∈ scope.names, y.2 = .local → y.1 ∉ N
  free : ∀ y ∈ scope.names, y.2 = .free → sc.names.lookup y.1 = some .cell ∨ sc.names.lookup y.1 = some .free
omit [DL.Me] in
def lamSB2 (N : List Str) (sc scope : Scope) : Bool :=
  decide (scope.kind = .function) && !scope.isCoroutine && !scope.isGenerator && scope.names.all fun y => !decide (y.2 = .cell) && (!decide (y.2 = .local) || !N.contains y.1) && (!decide (y.2 = .free) || decide (sc.names.lookup y.1 = some .cell) || decide (sc.names.lookup y.1 = some .free))
theorem lamS2_by {N : List Str} {sc scope : Scope} (h : lamSB2 N sc scope = true) : LamS2 N sc scope := by
  unfold lamSB2 at h
  simp only [Bool.and_eq_true, Bool.or_eq_true, Bool.not_eq_true', decide_eq_true_eq, decide_eq_false_iff_not, List.all_eq_true] at h
  obtain ⟨⟨⟨h1, h2⟩, h3⟩, h4⟩ := h
  refine ⟨h1, h2, h3, fun y hy => (h4 y hy).1.1, fun y hy e m => ?_, fun y hy e => ?_⟩
  · rcases (h4 y hy).1.2 with q | q
    · exact q e
    · rw [List.contains_iff_mem.mpr m] at q
      cases q
  · rcases (h4 y hy).2 with (q | q) | q
    · exact absurd e q
    · exact .inl q
    · exact .inr q
omit [DL.Me] in
/-- what the lambda's body sees of its maker, in the ground -/
structure Snap (X : Cx) (g : Heap) (σ : L2.St) (scope : Scope) : Prop where
  len : σ.length = X.N.length
  cells : ∀ y c, X.env.cells.lookup y = some c → ∃ v, g.IsCell c v
  vals : ∀ (i : Nat) (y : Str) (v : V), X.N[i]? = some y → σ[i]? = some (some v) → scope.names.lookup y = some .free → ∃ u c, RelV v u ∧ X.env.cells.lookup y = some c ∧ g.IsCell c (some u)
theorem LamS2.has {X : Cx} {scope : Scope} (L : LamS2 X.N X.env.scope scope) (ok : X.Ok) : ∀ y ∈ scope.names, y.2 = .free → ∃ c, X.env.cells.lookup y.1 = some c := fun y hy e => ok.has _ (L.free y hy e)
section
variable {X : Cx} {pins : List (Addr × Obj)} {σ : L2.St} {H : Hp} {s : Shared} {scope : Scope}
theorem snap_of (I : Inv X pins σ H s) (L : LamS2 X.N X.env.scope scope) (hfn : ∀ y, X.fn y = true) : Snap X (grd s.heap H X.stack) σ scope := by
  have inG : ∀ {y c v}, X.env.cells.lookup y = some c → s.heap.IsCell c v → (grd s.heap H X.stack).IsCell c v := fun {y c v} e ⟨o, h1, h2⟩ => by
    refine ⟨o, grd_in h1 (I.freeC y c e) fun z => ?_, h2⟩
    rcases List.mem_cons.mp (I.stkSub _ z) with q | q
    · exact I.cne y c e q
    · obtain ⟨_, o', h3, _⟩ := I.ok.funs.mem q
      exact Nat.lt_irrefl _ (Nat.lt_of_lt_of_le (Heap.lt_size h3) (I.ok.cab y c (hfn y) e))
  refine ⟨I.len, fun y c e => ?_, fun i y v e1 e2 e3 => ?_⟩
  · obtain ⟨v, z⟩ := I.cell y c e
    exact ⟨v, inG e z⟩
  · obtain ⟨m, _, hl⟩ := I.loc
    have hy := L.free _ (PySem.mem_of_lookup e3) rfl
    obtain ⟨u, r, q⟩ := hl i y v e1 e2 (.inr hy)
    rcases q with ⟨k, _⟩ | ⟨_, c, e, z⟩
    · have k' : X.env.scope.names.lookup y = some .local := k
      rcases hy with q | q <;> rw [show X.env.scope.names.lookup y = _ from q] at k' <;> cases k'
    · exact ⟨u, c, r, e, inG e z⟩
theorem Snap.mono {g g' : Heap} (S : Snap X g σ scope) (e : Sub g g') : Snap X g' σ scope where
  len := S.len
  cells := fun y c h => let ⟨v, o, h1, h2⟩ := S.cells y c h; ⟨v, o, e _ _ h1, h2⟩
  vals := fun i y v h1 h2 h3 => let ⟨u, c, r, k, o, h4, h5⟩ := S.vals i y v h1 h2 h3; ⟨u, c, r, k, o, e _ _ h4, h5⟩
theorem lam_enter {A : Around} {outer : List Env} {E : XK} {f c' : Addr} {g h₁ : Heap} {tk : Nat} {s1 : Shared} {HZ : Hp} {m : Str → Option Value} (ok : X.Ok) (S : Snap X g σ scope) (L : LamS2 X.N X.env.scope scope)
    (e0 : Env0 X.prog X.w X.K X.mg X.base A outer s1 HZ) (hd : A.handled = none) (gk : ∀ b o, g.get? b = some o → s1.heap.get? b = some o ∧ HZ b = none) (hns : h₁.Ns s1.heap.objs.size m) (kp : Sub s1.heap h₁) :
    Inv (lamCx X A outer s1 HZ E scope f c') [] σ HZ { s1 with heap := h₁, toks := tk } := by
  have hfree := L.has ok
  have cm : ∀ {y c}, (cloFrom X.env.cells scope.names []).lookup y = some c → X.env.cells.lookup y = some c := fun {y c} e => by
    rcases cloFrom_mem (PySem.mem_of_lookup e) with q | ⟨q, q2⟩
    · exact nomatch q
    · obtain ⟨c1, e1⟩ := hfree _ q rfl
      rw [show X.env.cells.lookup y = some c1 from e1] at q2 ⊢
      exact congrArg some q2.symm
  have look : ∀ {y}, scope.names.lookup y = some .free → ∃ c, (cloFrom X.env.cells scope.names []).lookup y = some c := fun {y} hl => mem_lookup (cloFrom_has (cells := X.env.cells) (acc := []) (PySem.mem_of_lookup hl))
  have cellK : ∀ {c : Addr} {v : Option Value}, g.IsCell c v → h₁.IsCell c v := fun {c v} ⟨o, h1, h2⟩ => ⟨o, kp _ _ (gk _ _ h1).1, h2⟩
  have noB : ∀ b : Addr, b ∉ (lamCx X A outer s1 HZ E scope f c').ex := fun b z => nomatch (show b ∈ ([] : List Addr) from z)
  have okL : (lamCx X A outer s1 HZ E scope f c').Ok := {
    mod := e0.mod
    kind := L.kind
    glob := rfl
    blt := rfl
    above := Nat.le_refl _
    inj := fun y z c e1 e2 => ok.inj y z c (cm e1) (cm e2)
    has := fun y hy => by
      have hy' : scope.names.lookup y = some .cell ∨ scope.names.lookup y = some .free := hy
      rcases hy' with q | q
      · exact absurd rfl (L.cell _ (PySem.mem_of_lookup q))
      · exact look q
    cab := fun y c z _ => nomatch (show false = true from z)
    hd := fun _ => hd
    frames := Around.frames_deeper e0.frames
    stk := .inr ⟨rfl, rfl⟩
    exf := fun b z => absurd z (noB b)
    bs := e0.bs
    bsz := e0.bsz
    noex := fun b _ _ => noB b
    exfs := fun b z => absurd z (noB b)
    funs := e0.funs
    frf := e0.frf }
  exact {
    ok := okL
    os := rfl
    bare := e0.bare
    base := Un.kept kp
    loc := ⟨m, hns, fun i y v e1 e2 e3 => by
      have e3' : scope.names.lookup y = some .local ∨ scope.names.lookup y = some .cell ∨ scope.names.lookup y = some .free := e3
      rcases e3' with q | q | q
      · exact absurd (List.mem_of_getElem? e1) (L.own _ (PySem.mem_of_lookup q) rfl)
      · exact absurd rfl (L.cell _ (PySem.mem_of_lookup q))
      · obtain ⟨u, c, r, h1, h2⟩ := S.vals i y v e1 e2 q
        obtain ⟨c2, h3⟩ := look q
        have h4 := cm h3
        rw [h1] at h4
        cases h4
        exact ⟨u, r, .inr ⟨.inr q, c, h3, cellK h2⟩⟩⟩
    cell := fun y c e => let ⟨v, z⟩ := S.cells y c (cm e); ⟨v, cellK z⟩
    free := e0.hok.fresh (Nat.le_refl _)
    freeC := fun y c e => by
      obtain ⟨v, o, h1, h2⟩ := S.cells y c (cm e)
      exact (gk c o h1).2
    pin := fun q hq => nomatch (show q ∈ ([] : List (Addr × Obj)) ++ [] from hq)
    hok := e0.hok.kept kp
    len := S.len }
end
theorem env0_base {P : Program} {w : World} {K : Frag} {mg : Str → Option Value} {g b0 : Heap} {A : Around} {outer : List Env} {s : Shared} {H : Hp} (e0 : Env0 P w K mg g A outer s H) (M : Mod K mg b0) (k : Sub b0 g) (sz : b0.objs.size ≤ g.objs.size) : Env0 P w K mg b0 A outer s H where
  frames := e0.frames
  mod := M
  bs := fun b o e => e0.bs b o (k b o e)
  bsz := Nat.le_trans sz e0.bsz
  funs := by
    have low : ∀ {l : List Env}, s.heap.FunFrames g l → s.heap.FunFrames b0 l := by
      intro l
      induction l with
      | nil => exact fun _ => trivial
      | cons env r ih =>
        rintro ⟨hk, ⟨L, o, hf, hn, ho, hd⟩, hr⟩
        refine ⟨hk, ⟨L, o, hf, ?_, ho, hd⟩, ih hr⟩
        cases q : b0.get? L with
        | none => rfl
        | some u =>
          have := k _ _ q
          rw [hn] at this
          cases this
    exact low e0.funs
  frf := e0.frf
  hok := e0.hok
  bare := e0.bare
section
variable {X : Cx} {σ : L2.St} {scope : Scope}
/-- x(), in a def that got the lambda, however deep it runs: its context stands over the ground g -/
theorem pe_ask {CXg : CXT} {Eg : XK} {Ng stk : List _} {qg : Str} {sg : Scope} {gf f c' : Addr} {g : Heap} {A : Around} {sb : Shared} {Hb : Hp} {cdg : Value} {params : Arguments} {body : Expr} {k i : Nat} {a : Str} {pn : List (Addr × Obj)} {xe : Value → Shared → Prop} {W : WX} {E : XK} {tb : TE} {p1 p2 : Pos}
    (ok : X.Ok) (kb : Sub X.base g) (kz : X.base.objs.size ≤ g.objs.size) (S : Snap X g σ scope) (L : LamS2 X.N X.env.scope scope) (V : Lv X g params body scope f c')
    (tk : Takes ((cxOf CXg X.prog X.w X.K X.mg g Ng qg sg gf cdg A stk sb Hb Eg).tr pn xe) W) (hW : ∀ cls d σ' H', E cls d H' → W cls d σ' H') (hr : Room (k + 1) (A.deeper (envOfC qg sg sb.heap.objs.size gf cdg)))
    (hbody : ∀ (A : Around) (outer : List Env) (s : Shared) (H : Hp), Room k (A.deeper (lamEnv X scope s.heap.objs.size f c')) → PE (lamCx X A outer s H E scope f c') body tb)
    (hN : Ng[i]? = some a) (hv : Vis sg a) (hd : (a == ("__debug__" : Str)) = false := by decide) (hcd : (a == ("__classdict__" : Str)) = false := by decide) :
    PE ((cxOf CXg X.prog X.w X.K X.mg g Ng qg sg gf cdg A stk sb Hb Eg).tr pn xe) (.Call (.Name a p1) [] [] p2)
      (fun σZ HZ Q => σZ[i]? = some (some (.ref f)) ∧ HZ c' = some (CodeO c' (X.env.qual ++ "<lambda>")) ∧ tb σ HZ Q) := by
  refine ⟨fun pinsZ sZ σZ HZ Q IZ h => ?_⟩
  obtain ⟨hs, hc, ht⟩ := h
  refine wpAny_Call_Name_kw (thn ((pe_var (pos := p1) (i := i) hN hv hd hcd).run pinsZ sZ σZ HZ (fun v H1 => v = .ref f ∧ H1 = HZ) IZ ⟨.ref f, hs, rfl, rfl⟩) fun u s1 hu => ?_)
  obtain ⟨v, H1, I1, r1, ev, eH⟩ := hu
  subst ev eH
  obtain rfl : u = Value.ref f := r1
  obtain ⟨dV, doc, pm, ctv, bs, l, v1, v2, v4, v3⟩ := V
  have gk : ∀ b o, g.get? b = some o → s1.heap.get? b = some o ∧ H1 b = none := I1.bs
  have atF := (gk _ _ v1).1
  refine PySem.W.callWith_F0 ⟨_, _, _, _, atF⟩ ?_
  obtain ⟨⟨oc, vs, t, hoc, hdc, hvc⟩, _, _⟩ := I1.hok c' _ hc
  have e1 := env0_base I1.env0 ok.mod kb kz
  have rc : codeAny (model X.prog X.w) (A.deeper (envOfC qg sg sb.heap.objs.size gf cdg)) (.call (.ref f) ⟨[], []⟩) (CR (L2.CX X.prog X.w) (envOfC qg sg sb.heap.objs.size gf cdg :: stk) X.prog X.w H1 s1 Q E) s1 := by
    refine PySem.W.kla_callFunE hr.depth atF rfl L.co L.gen rfl ⟨c', oc, vs, t, rfl, hoc, hdc, hvc⟩ (v3 s1 (fun p hp => (gk _ _ (v4 p hp).1).1) _ _ _ _ ?_)
    refine wpAny_newFunctionEnv L.cell v2 (fun h₁ hns hsb => ⟨I1.nolimit.fresh _ hsb, ?_⟩) L.kind
    show codeAny _ _ (.expr body (lamEnv X scope s1.heap.objs.size f c')) _ _
    have kp : Sub s1.heap h₁ := fun b o e => hsb.extBut b o (Nat.ne_of_lt (Heap.lt_size e)) (Heap.get?_push_of_some _ e)
    have J : Inv (lamCx X (A.deeper (envOfC qg sg sb.heap.objs.size gf cdg)) (envOfC qg sg sb.heap.objs.size gf cdg :: stk) s1 H1 E scope f c') [] σ H1 { s1 with heap := h₁, toks := s1.toks + bs.length } :=
      lam_enter ok S L e1 hr.hd gk hns kp
    refine PySem.W.kla_codeExpr (wpAny_mono ((hbody _ _ s1 H1 (hr.deeper _)).run [] _ _ H1 Q J ht) (fun u s' hq => ?_) fun e s' hq => hq)
    obtain ⟨w', H', J', rv, q⟩ := hq
    exact ⟨w', H', J'.os, J'.bare, J'.base, J'.hok, rv, q⟩
  have hx : Passes (L2.CX X.prog X.w) ((cxOf CXg X.prog X.w X.K X.mg g Ng qg sg gf cdg A stk sb Hb Eg).tr pn xe) E := passes_call tk hW
  refine wpAny_call (codeAny_mono rc fun r s' hq => ?_)
  cases r with
  | error e => exact hx pinsZ σZ H1 s1 e s' I1 hq
  | ok fl =>
    cases fl with
    | ret u => exact I1.after hq
    | next => exact hq.elim
    | brk => exact hq.elim
    | cont => exact hq.elim
end
end DX
set_option maxHeartbeats 4000000
namespace DX
open PySem PySem.Spec PySem.Calls PyProof.Rows PySem.W L2 LamX DL
open L2H (RoomH)
variable [DL.Tabs] [DL.Me]
omit [DL.Me] in
structure LamR where
  params : Arguments
  body : Expr
  scope : Scope
omit [DL.Me] in
def MakesL (X : Cx) (T : List (Addr × Str)) : List Expr → List LamR → Prop
  | [], [] => True
  | e :: es, r :: rs => Makes X T e r.params r.body r.scope ∧ starEach (e :: es) X.env = (false, eval e X.env) :: starEach es X.env ∧ MakesL X T es rs
  | _, _ => False
omit [DL.Me] in
def LvL (X : Cx) (g : Heap) (H : Hp) : List LamR → List (Addr × Addr) → Prop
  | [], [] => True
  | r :: rs, p :: ps => (Lv X g r.params r.body r.scope p.1 p.2 ∧ H p.2 = some (CodeO p.2 (X.env.qual ++ "<lambda>"))) ∧ LvL X g H rs ps
  | _, _ => False
theorem codeO_tbl {c : Addr} {q : Str} (ps : Array Value) : CodeO c q ≠ .tbl ps := codeO_ne ps
theorem LvL.mono {X : Cx} {g g' : Heap} {H H' : Hp} (e : Sub g g') (n : ExtN H H') : ∀ {rs : List LamR} {ps : List (Addr × Addr)}, LvL X g H rs ps → LvL X g' H' rs ps
  | [], [], _ => trivial
  | r :: rs, p :: ps, h => ⟨⟨h.1.1.mono e, n _ _ h.1.2 codeO_tbl⟩, LvL.mono e n h.2⟩
  | [], _ :: _, h => h.elim
  | _ :: _, [], h => h.elim
theorem LvL.len {X : Cx} {g : Heap} {H : Hp} : ∀ {rs : List LamR} {ps : List (Addr × Addr)}, LvL X g H rs ps → ps.length = rs.length
  | [], [], _ => rfl
  | r :: rs, p :: ps, h => congrArg Nat.succ (LvL.len h.2)
  | [], _ :: _, h => h.elim
  | _ :: _, [], h => h.elim
theorem LvL.get {X : Cx} {g : Heap} {H : Hp} : ∀ {rs : List LamR} {ps : List (Addr × Addr)} {i : Nat} {p : Addr × Addr}, LvL X g H rs ps → ps[i]? = some p → ∃ r, rs[i]? = some r ∧ Lv X g r.params r.body r.scope p.1 p.2
  | r :: rs, p :: ps, 0, p', h, e => by
    simp at e
    subst e
    exact ⟨r, rfl, h.1.1⟩
  | r :: rs, p :: ps, i + 1, p', h, e => by
    obtain ⟨r', e1, e2⟩ := LvL.get (i := i) h.2 (by simpa using e)
    exact ⟨r', by simpa using e1, e2⟩
  | [], [], _, _, _, e => by simp at e
  | [], _ :: _, _, _, h, _ => h.elim
  | _ :: _, [], _, _, h, _ => h.elim
theorem LvL.code {X : Cx} {g : Heap} {H : Hp} : ∀ {rs : List LamR} {ps : List (Addr × Addr)}, LvL X g H rs ps → ∀ p ∈ ps, H p.2 = some (CodeO p.2 (X.env.qual ++ "<lambda>"))
  | [], [], _, p, hp => nomatch hp
  | r :: rs, p :: ps, h, p', hp => by
    rcases List.mem_cons.mp hp with e | e
    · rw [e]; exact h.1.2
    · exact LvL.code h.2 p' e
  | [], _ :: _, h, _, _ => h.elim
  | _ :: _, [], h, _, _ => h.elim
section
variable {X : Cx} {pins : List (Addr × Obj)} {σ : L2.St} {T : List (Addr × Str)} {pos : Pos}
theorem makes_list {E : Value → Shared → Prop} : ∀ {es : List Expr} {rs : List LamR} {H : Hp} {s : Shared} {Q : List Value → Shared → Prop}, MakesL X T es rs → Inv X pins σ H s → LamX.Tabs T H →
    (∀ (ps : List (Addr × Addr)) (H1 : Hp) (s' : Shared), Inv X pins σ H1 s' → ExtN H H1 → LamX.Tabs T H1 → Sub (grd s.heap H X.stack) (grd s'.heap H1 X.stack) → LvL X (grd s'.heap H1 X.stack) H1 rs ps → Q (ps.map fun p => .ref p.1) s') →
    wpAny (model X.prog X.w) X.A (spliced (backTo pos (starEach es X.env))) Q E s
  | [], [], H, s, Q, _, I, hT, h => Calls.spliced_nil (h [] H s I (ExtN.refl H) hT (Sub.refl _) trivial)
  | e :: es, r :: rs, H, s, Q, M, I, hT, h => by
    obtain ⟨m1, m2, m3⟩ := M
    rw [m2]
    show wpAny _ _ (spliced ((false, eval e X.env) :: backTo pos (starEach es X.env))) _ _ s
    refine Calls.spliced_cons (m1 pins σ H s _ _ I hT fun f c' H1 s1 I1 x1 t1 k1 v1 o1 => ?_)
    refine makes_list m3 I1 t1 fun ps H2 s2 I2 x2 t2 k2 v2 => ?_
    exact h ((f, c') :: ps) H2 s2 I2 (x1.trans x2) t2 (k1.trans k2) ⟨⟨v1.mono k2, x2 _ _ o1 codeO_tbl⟩, v2⟩
  | [], _ :: _, _, _, _, M, _, _, _ => M.elim
  | _ :: _, [], _, _, _, M, _, _, _ => M.elim
end
omit [DL.Me] in
def teEl (q : Str) (TT : (XK → Hp → VK → Prop) → Hp → VK → Prop) (ts : List (XK → TE)) (ps : List (Addr × Addr)) (σ : L2.St) : TE := fun σY HY Q =>
  ∃ (i : Nat) (p : Addr × Addr) (t : XK → TE), ps[i]? = some p ∧ ts[i]? = some t ∧ σY[1]? = some (some (.ref p.1)) ∧ HY p.2 = some (CodeO p.2 q) ∧ TT (fun E H' Q' => t E σ H' Q') HY Q
omit [DL.Me] in
def tTries (K : Frag) (T : List (Addr × Str)) (q : Str) (n : Nat) (N1 : List Str) (TT : (XK → Hp → VK → Prop) → Hp → VK → Prop) (ts : List (XK → TE)) : TE := fun σ H Q =>
  LamX.Tabs T H ∧ n ≤ sizeLine ∧ ∀ H1, ExtN H H1 → LamX.Tabs T H1 → ∀ ps : List (Addr × Addr), ps.length = n → (∀ p ∈ ps, H1 p.2 = some (CodeO p.2 q)) → ∀ L, H1 L = none →
    tLc (iList K (tVar 0)) (gName 1) tYes (teEl q TT ts ps σ) [1] (L2.start N1 [.ref L]) (upd H1 L (.lst (ps.map fun p => V.ref p.1))) Q
section
variable {X : Cx} {σ : L2.St}
theorem pe_askB {B : Cx} {CXg : CXT} {Eg : XK} {Ng : List Str} {qg : Str} {sg : Scope} {gf f c' : Addr} {sb : Shared} {Hb : Hp} {scope : Scope} {cdg : Value} {params : Arguments} {body : Expr} {k i : Nat} {a : Str} {pn : List (Addr × Obj)} {xe : Value → Shared → Prop} {W : WX} {E : XK} {tb : TE} {p1 p2 : Pos}
    (hp : B.prog = X.prog) (hw : B.w = X.w) (hK : B.K = X.K) (hm : B.mg = X.mg) (ok : X.Ok) (kb : Sub X.base B.base) (kz : X.base.objs.size ≤ B.base.objs.size) (S : Snap X B.base σ scope) (L : LamS2 X.N X.env.scope scope) (V : Lv X B.base params body scope f c')
    (tk : Takes ((cxOf CXg B.prog B.w B.K B.mg B.base Ng qg sg gf cdg B.A B.stack sb Hb Eg).tr pn xe) W) (hW : ∀ cls d σ' H', E cls d H' → W cls d σ' H') (hr : Room (k + 1) (B.A.deeper (envOfC qg sg sb.heap.objs.size gf cdg)))
    (hbody : ∀ (A : Around) (outer : List Env) (s : Shared) (H : Hp), Room k (A.deeper (lamEnv X scope s.heap.objs.size f c')) → PE (lamCx X A outer s H E scope f c') body tb)
    (hN : Ng[i]? = some a) (hv : Vis sg a) (hd : (a == ("__debug__" : Str)) = false) (hcd : (a == ("__classdict__" : Str)) = false) :
    PE ((cxOf CXg B.prog B.w B.K B.mg B.base Ng qg sg gf cdg B.A B.stack sb Hb Eg).tr pn xe) (.Call (.Name a p1) [] [] p2)
      (fun σZ HZ Q => σZ[i]? = some (some (.ref f)) ∧ HZ c' = some (CodeO c' (X.env.qual ++ "<lambda>")) ∧ tb σ HZ Q) := by
  rw [hp, hw, hK, hm] at tk ⊢
  exact pe_ask ok kb kz S L V tk hW hr hbody hN hv hd hcd
theorem pe_elem {B : Cx} {x2 ask a : Str} {g2 : Addr} {st2 : Stmt} {fd2 : FuncData} {Ng : List Str} {rs : List LamR} {ps : List (Addr × Addr)} {k : Nat} {ts : List (XK → TE)} {TT : (XK → Hp → VK → Prop) → Hp → VK → Prop} {p1 p2 p3 : Pos}
    (hp : B.prog = X.prog) (hw : B.w = X.w) (hK : B.K = X.K) (hm : B.mg = X.mg) (ok : X.Ok) (kb : Sub X.base B.base) (kz : X.base.objs.size ≤ B.base.objs.size) {HL : Hp} (V : LvL X B.base HL rs ps) (S : ∀ r ∈ rs, Snap X B.base σ r.scope) (L : ∀ r ∈ rs, LamS2 X.N X.env.scope r.scope)
    (F2 : Fun B.K x2 x2 st2 g2 fd2) (Sc2 : FnScope Ng [a] (defScope st2)) (B2 : L2.Binds B.K fd2 [a] []) (hm2 : B.mg x2 = some (.ref g2)) (hg2 : Gl B x2) (hNg : Ng[0]? = some a) (hva : Vis (defScope st2) a) (hr : Room (k + 2) B.A) (hN1 : B.N[1]? = some ask) (hvk : Vis B.env.scope ask)
    (hG : ∀ cdv, GivesTo B Ng x2 (defScope st2) g2 cdv (defBody st2) a (X.env.qual ++ "<lambda>") TT)
    (hbody : ∀ (i : Nat) (r : LamR) (t : XK → TE), rs[i]? = some r → ts[i]? = some t → ∀ (A : Around) (outer : List Env) (s : Shared) (H : Hp) (E : XK) (f c' : Addr), Room k (A.deeper (lamEnv X r.scope s.heap.objs.size f c')) → PE (lamCx X A outer s H E r.scope f c') r.body (t E))
    (hd2 : (x2 == ("__debug__" : Str)) = false) (hda : (a == ("__debug__" : Str)) = false) (hca : (a == ("__classdict__" : Str)) = false) (hdk : (ask == ("__debug__" : Str)) = false) (hck : (ask == ("__classdict__" : Str)) = false) :
    PE B (.Call (.Name x2 p1) [.Name ask p2] [] p3) (teEl (X.env.qual ++ "<lambda>") TT ts ps σ) := by
  refine ⟨fun pinsB sB σB HB QB IB hB => ?_⟩
  obtain ⟨i, pa, tt, a1, a2, a3, a4, a5⟩ := hB
  obtain ⟨r, b1, b2⟩ := V.get a1
  have rin : r ∈ rs := List.mem_of_getElem? b1
  refine wpAny_Call_Name_kw (ld_glob IB hg2 hm2 ?_ hd2)
  refine PySem.W.callWith_K (h₀ := B.base) IB.ok.mod.kin F2.kp ?_ (by rfl) (by rfl)
  show wpAny _ _ (spliced ((false, eval (.Name ask p2) B.env) :: backTo p3 (starEach [] B.env))) _ _ sB
  refine Calls.spliced_cons (thn ((pe_var (pos := p2) (i := 1) hN1 hvk hdk hck).run pinsB sB σB HB (fun v H1 => v = .ref pa.1 ∧ H1 = HB) IB ⟨.ref pa.1, a3, rfl, rfl⟩) fun u s4 hu => ?_)
  obtain ⟨v, H4, I4, r4, ev, eH⟩ := hu
  subst ev eH
  obtain rfl : u = Value.ref pa.1 := r4
  refine Calls.spliced_nil ⟨I4.kIn, ?_⟩
  have rc : codeAny (model B.prog B.w) B.A (.call (.ref g2) ⟨[.ref pa.1], []⟩) (CR C8.CX0 B.stack B.prog B.w H4 s4 QB C8.E0) s4 := by
    obtain ⟨oc2, od2, kV2, doc2, pm2, an2, cdv2, ct2, osl2, rfl, lk2, hcg2⟩ := F2.ex
    refine run_ofS (N := Ng) (ps := [a]) (us := [.ref pa.1]) (vs := [.ref pa.1]) lk2 hcg2 Sc2 hr I4.env0 (B2 s4 [.ref pa.1] I4.kIn rfl) (.cons rfl .nil) rfl fun hr2 => ?_
    obtain ⟨t', ht', hq'⟩ := hG cdv2 pa.1 pa.2 s4 H4 QB (fun E H' Q' => tt E σ H' Q')
      (fun W pn xe E q1 q2 tk hW => pe_askB (i := 0) hp hw hK hm ok kb kz (S r rin) (L r rin) b2 tk hW hr2 (fun A outer s H hr3 => hbody i r tt b1 a2 A outer s H E pa.1 pa.2 hr3) hNg hva hda hca) a4 a5
    exact ⟨t', ht'.nox, hq'⟩
  refine wpAny_call (codeAny_mono rc fun r3 s5 hq3 => ?_)
  cases r3 with
  | error e => exact (show False from hq3).elim
  | ok fl =>
    cases fl with
    | ret u => exact I4.after hq3
    | next => exact hq3.elim
    | brk => exact hq3.elim
    | cont => exact hq3.elim
end
section
variable {X : Cx}
theorem pe_tries {T : List (Addr × Str)} {x1 x2 asks ask a : Str} {g1 g2 : Addr} {st1 st2 : Stmt} {fd1 fd2 : FuncData} {N1 Ng : List Str} {es : List Expr} {rs : List LamR} {k : Nat} {ts : List (XK → TE)} {TT : (XK → Hp → VK → Prop) → Hp → VK → Prop} {scope1 : Scope} {own1 : List (Str × Nat)} {p p0 p1 p2 p3 p4 p5 p6 p7 pos : Pos}
    (F1 : Fun X.K x1 x1 st1 g1 fd1) (Sc1 : FnScope N1 [asks] (defScope st1)) (hb1 : defBody st1 = [.Return (some (.ListComp (.Call (.Name x2 p1) [.Name ask p2] [] p3) [⟨.Name ask p4, .Name asks p5, [], 0⟩] scope1 p6)) p7]) (B1 : L2.Binds X.K fd1 [asks] []) (hg1 : Gl X x1) (hm1 : X.mg x1 = some (.ref g1))
    (ok1 : BlkOk N1 (defScope st1) scope1 own1) (ho : own1.map (·.2) = [1]) (hN0 : N1[0]? = some asks) (hN1 : N1[1]? = some ask) (hv0 : Vis (defScope st1) asks) (hl1 : (relS scope1 (defScope st1)).names.lookup ask = some .local) (h0 : ∀ v : V, (L2.start N1 [v])[0]? = some (some v))
    (F2 : Fun X.K x2 x2 st2 g2 fd2) (Sc2 : FnScope Ng [a] (defScope st2)) (B2 : L2.Binds X.K fd2 [a] []) (hm2 : X.mg x2 = some (.ref g2)) (hg2 : (relS scope1 (defScope st1)).names.lookup x2 = some .globalImplicit) (hNg : Ng[0]? = some a) (hva : Vis (defScope st2) a)
    (hG : ∀ B : Cx, B.prog = X.prog → B.w = X.w → B.K = X.K → B.mg = X.mg → Room (k + 2) B.A → ∀ cdv, GivesTo B Ng x2 (defScope st2) g2 cdv (defBody st2) a (X.env.qual ++ "<lambda>") TT)
    (M : MakesL X T es rs) (hfn : ∀ y, X.fn y = true) (hr : Room (k + 3) X.A) (L : ∀ r ∈ rs, LamS2 X.N X.env.scope r.scope)
    (hbody : ∀ (i : Nat) (r : LamR) (t : XK → TE), rs[i]? = some r → ts[i]? = some t → ∀ (A : Around) (outer : List Env) (s : Shared) (H : Hp) (E : XK) (f c' : Addr), Room k (A.deeper (lamEnv X r.scope s.heap.objs.size f c')) → PE (lamCx X A outer s H E r.scope f c') r.body (t E))
    (hd1 : (x1 == ("__debug__" : Str)) = false := by decide) (hd2 : (x2 == ("__debug__" : Str)) = false := by decide) (hda : (a == ("__debug__" : Str)) = false := by decide) (hca : (a == ("__classdict__" : Str)) = false := by decide)
    (hdk : (ask == ("__debug__" : Str)) = false := by decide) (hck : (ask == ("__classdict__" : Str)) = false := by decide) (hds : (asks == ("__debug__" : Str)) = false := by decide) (hcs : (asks == ("__classdict__" : Str)) = false := by decide) :
    PE X (.Call (.Name x1 p) [.List es p0] [] pos) (tTries X.K T (X.env.qual ++ "<lambda>") rs.length N1 TT ts) := by
  refine ⟨fun pins s σ H Q I h => ?_⟩
  obtain ⟨hT, hz, h⟩ := h
  refine wpAny_Call_Name_kw (ld_glob I hg1 hm1 ?_ hd1)
  refine PySem.W.callWith_K (h₀ := X.base) I.ok.mod.kin F1.kp ?_ (by rfl) (by rfl)
  show wpAny _ _ (spliced ((false, eval (.List es p0) X.env) :: backTo pos (starEach [] X.env))) _ _ s
  refine Calls.spliced_cons (wpAny_List_spliced (makes_list M I hT fun ps H1 s1 I1 eN T1 k1 v1 => ⟨by rw [List.length_map, v1.len]; exact hz, ?_⟩))
  have hf : H1 s1.heap.objs.size = none := I1.hok.fresh (Nat.le_refl _)
  have hps := v1.len
  generalize hLs : s1.heap.objs.size = La at hf ⊢
  generalize hs2 : ({ s1 with heap := s1.heap.push { cls := .type "list", data := .seq (ps.map fun p => Value.ref p.1).toArray } } : Shared) = s2
  have vals : ∀ l : List (Addr × Addr), Vals (l.map fun p => V.ref p.1) (l.map fun p => Value.ref p.1) := fun l => by
    induction l with
    | nil => exact .nil
    | cons b r ih => exact .cons rfl ih
  have I2 : Inv X pins σ (upd H1 La (.lst (ps.map fun p => V.ref p.1))) s2 := by
    rw [← hs2]
    refine I1.laid (t' := s1.toks) (fun b u e => Heap.get?_push_of_some _ e) (Nat.le_of_eq hLs) ⟨?_, _, 0, vals ps, ?_⟩
    · rw [List.length_map, hps]; exact hz
    · rw [← hLs]; exact Heap.get?_push_size _ rfl
  have k2 : Sub (grd s1.heap H1 X.stack) (grd s2.heap (upd H1 La (.lst (ps.map fun p => V.ref p.1))) X.stack) := fun b o e => by
    obtain ⟨e1, e2, e3⟩ := grd_of e
    refine grd_in (by rw [← hs2]; exact Heap.get?_push_of_some _ e1) ?_ e3
    rw [upd_ne (fun z => by rw [z, ← hLs] at e1; exact Nat.lt_irrefl _ (Heap.lt_size e1))]
    exact e2
  have v2 : LvL X (grd s2.heap (upd H1 La (.lst (ps.map fun p => V.ref p.1))) X.stack) (upd H1 La (.lst (ps.map fun p => V.ref p.1))) rs ps := v1.mono k2 fun b o e n => by
    rw [upd_ne (ne_of_none e hf)]; exact e
  have hq := h H1 eN T1 ps hps v1.code La hf
  generalize upd H1 La (.lst (ps.map fun p => V.ref p.1)) = H2 at I2 k2 v2 hq
  refine Calls.spliced_nil ⟨I2.kIn, ?_⟩
  have e0 := grd_env0 I2
  have kb := grd_base I2
  have kz : X.base.objs.size ≤ (grd s2.heap H2 X.stack).objs.size := by
    unfold grd
    rw [hideAll_size]
    exact Nat.le_trans I2.ok.bsz I2.sz
  generalize hgr : grd s2.heap H2 X.stack = g at e0 kb kz v2
  have snap : ∀ r ∈ rs, Snap X g σ r.scope := fun r hr' => by rw [← hgr]; exact snap_of I2 (L r hr') hfn
  have okX := I2.ok
  have rc : codeAny (model X.prog X.w) X.A (.call (.ref g1) ⟨[.ref La], []⟩) (CR C8.CX0 X.stack X.prog X.w H2 s2 Q C8.E0) s2 := by
    obtain ⟨oc, od, kV, doc, pm, an, cdv, ct, osl, rfl, lk, hcg⟩ := F1.ex
    refine run_ofS (base := g) (N := N1) (ps := [asks]) (us := [.ref La]) (vs := [.ref La]) lk hcg Sc1 hr e0 (B1 s2 [.ref La] I2.kIn rfl) (.cons rfl .nil) rfl fun hr1 => ?_
    generalize hY : cxOf C8.CX0 X.prog X.w X.K X.mg g N1 x1 (defScope st1) g1 cdv X.A X.stack s2 H2 C8.E0 = Y
    refine ⟨tRet (tLc (iList X.K (tVar 0)) (gName 1) tYes (teEl (X.env.qual ++ "<lambda>") TT ts ps σ) [1]), ?_, hq⟩
    rw [hb1]
    refine PSs.nox (pss_one (ps_ret ?_))
    rw [← ho]
    refine pe_lc (X := Y.nox) (own := own1) ?_ ?_ ?_ ?_ (fun s3 H3 C cl fp => ?_) (fun s3 H3 C cl fp => pts_nil) (fun s3 H3 C cl fp => ?_)
    · rw [← hY]; rfl
    · rw [← hY]; exact Sc1.nd
    · have e : X.K = Y.nox.K := by rw [← hY]; rfl
      rw [e]
      exact pi_list (pe_var (i := 0) (by rw [← hY]; exact hN0) (by rw [← hY]; exact hv0) hds hcs)
    · rw [← hY]; exact ok1
    · refine pg_name (i := 1) ?_ ?_ (.inl ?_) (.inr ?_)
      · rw [← hY]; exact Sc1.nd
      · rw [← hY]; exact hN1
      · rw [← hY]; exact hl1
      · rw [← hY]; exact hl1
    · have bK : (Y.nox.blk s3 H3 scope1 (compEnvC scope1 cl C Y.nox.env) fp).K = X.K := by rw [← hY]; rfl
      have bM : (Y.nox.blk s3 H3 scope1 (compEnvC scope1 cl C Y.nox.env) fp).mg = X.mg := by rw [← hY]; rfl
      have bB : (Y.nox.blk s3 H3 scope1 (compEnvC scope1 cl C Y.nox.env) fp).base = g := by rw [← hY]; rfl
      have bA : Room (k + 2) (Y.nox.blk s3 H3 scope1 (compEnvC scope1 cl C Y.nox.env) fp).A := by rw [← hY]; exact hr1
      have bP : (Y.nox.blk s3 H3 scope1 (compEnvC scope1 cl C Y.nox.env) fp).prog = X.prog := by rw [← hY]; rfl
      have bW : (Y.nox.blk s3 H3 scope1 (compEnvC scope1 cl C Y.nox.env) fp).w = X.w := by rw [← hY]; rfl
      have bN : (Y.nox.blk s3 H3 scope1 (compEnvC scope1 cl C Y.nox.env) fp).N = N1 := by rw [← hY]; rfl
      have bS : (Y.nox.blk s3 H3 scope1 (compEnvC scope1 cl C Y.nox.env) fp).env.scope = relS scope1 (defScope st1) := by rw [← hY]; rfl
      generalize Y.nox.blk s3 H3 scope1 (compEnvC scope1 cl C Y.nox.env) fp = B at bK bM bB bA bP bW bN bS ⊢
      refine pe_elem (HL := H2) bP bW bK bM okX (by rw [bB]; exact kb) (by rw [bB]; exact kz) (by rw [bB]; exact v2) (fun r hr' => by rw [bB]; exact snap r hr') L (by rw [bK]; exact F2) Sc2 (by rw [bK]; exact B2) (by rw [bM]; exact hm2) ?_ hNg hva bA (by rw [bN]; exact hN1) ?_ (hG B bP bW bK bM bA) hbody hd2 hda hca hdk hck
      · show B.env.scope.names.lookup x2 = _
        rw [bS]; exact hg2
      · rw [bS]; exact .inl hl1
  refine wpAny_call (codeAny_mono rc fun r s3 hq => ?_)
  cases r with
  | error e => exact (show False from hq).elim
  | ok fl =>
    cases fl with
    | ret u => exact I2.after hq
    | next => exact hq.elim
    | brk => exact hq.elim
    | cont => exact hq.elim
end
end DX
set_option maxHeartbeats 4000000
namespace DX
open PySem PySem.Spec PySem.Calls PyProof.Rows PySem.W L2 LamX DL
open L2H (RoomH)
variable [DL.Tabs] [DL.Me]
omit [DL.Me] in
def triesD (fl : List (Str × Str)) (e0 : Str) (sl : List (Option Slo)) : List DMX → List Dt → Option (List Dt × List Dt)
  | [], bg => some ([], bg)
  | f :: fs, bg => (mTry fl e0 f ⟨sl, bg⟩).bind fun p => (triesD fl e0 sl fs p.2.bag).bind fun q => some (p.1 :: q.1, q.2)
omit [DL.Me] in
def mTries (fl : List (Str × Str)) (e0 : Str) (fs : List DMX) : DM Dt := fun s => (triesD fl e0 (s.sl.map datOnly) fs s.bag).bind fun p => some (.lst p.1, { s with bag := p.2 })
theorem tt_try {fl : List (Str × Str)} {K : Frag} {T1 T2 T3 : Addr} {e0 : Str} {f : DMX} (hT : ∀ C nm, ErrC K C nm → exmAny K (.ref C) [.ref T1, .ref T2, .ref T3] = some true) {β : Addr} {P H G : Hp} {σ : L2.St} {s s' : Sta} {d : Dt} {Q : VK}
    (R : Rel K β P σ H G s) (e : mTry fl e0 f s = some (d, s')) (k : ∀ v H' G', Ext G G' → Rel K β P σ H' G' s' → IsD K β G' d v → Q v H') : TTtry K fl T1 T2 T3 e0 (fun E H' Q' => tOfX K f E σ H' Q') H Q := by
  unfold mTry at e
  obtain ⟨⟨r, s1⟩, e1, e⟩ := Option.bind_eq_some_iff.mp e
  refine ⟨β, P, G, s, r, s1, R, e1, ?_⟩
  cases r with
  | inl d0 =>
    cases e
    intro v H2 G2 x2 R2 i2
    refine ⟨by rw [sizeLine_eq]; omega, fun p hp => ?_⟩
    have xn := Ext.new (o := HO.tup [.str e0, v]) (R2.free hp)
    exact k _ _ _ (x2.trans xn) (R2.new hp) (is_tup.mpr ⟨p, _, rfl, .inl (.inl upd_same), isl_cons.mpr ⟨_, _, rfl, is_str.mpr rfl, isl_cons.mpr ⟨v, _, rfl, IsD.mono xn _ _ i2, isl_nil.mpr rfl⟩⟩⟩)
  | inr er =>
    obtain ⟨ds, e2, e⟩ := Option.bind_eq_some_iff.mp e
    cases e
    intro C dd H2 G2 x2 R2 ec g2
    obtain ⟨xs, g3, g4, g5⟩ := g2
    obtain ⟨ws, w1, w2⟩ := fld_is e2 g5
    refine ⟨hT C er.nm ec, C, er.nm, dd, xs, ws, rfl, rfl, ec, R2.gh dd _ g3, g4, w1, fun p r hp hr => ?_⟩
    have R3 := R2.new (o := .tup ws) hp
    have x3 := Ext.new (o := HO.tup ws) (R2.free hp)
    have x4 := Ext.new (o := HO.tup [.str er.nm, .ref p]) (R3.free hr)
    have R4 := R3.new (o := .tup [.str er.nm, .ref p]) hr
    exact k _ _ _ ((x2.trans x3).trans x4) R4 (is_tup.mpr ⟨r, _, rfl, .inl (.inl upd_same), isl_cons.mpr ⟨_, _, rfl, is_str.mpr rfl, isl_cons.mpr ⟨.ref p, _, rfl, IsD.mono x4 _ _ (is_tup.mpr ⟨p, ws, rfl, .inl (.inl upd_same), IsL.mono x3 _ _ w2⟩), isl_nil.mpr rfl⟩⟩⟩)
theorem te_tries {fl : List (Str × Str)} {K : Frag} {T1 T2 T3 : Addr} {e0 q : Str} {fs : List DMX} {N1 : List Str} (hT : ∀ C nm, ErrC K C nm → exmAny K (.ref C) [.ref T1, .ref T2, .ref T3] = some true) (hl : fs.length ≤ 1000) (h0 : ∀ v : V, (L2.start N1 [v])[0]? = some (some v)) (h1 : ∀ v : V, 1 < (L2.start N1 [v]).length) :
    TEok K (tTries K Tabs.ts q fs.length N1 (TTtry K fl T1 T2 T3 e0) (fs.map fun f E => tOfX K f E)) (mTries fl e0 fs) := by
  intro β P σ H G s d s' R e Q k
  unfold mTries at e
  obtain ⟨⟨ys, bgF⟩, e1, e⟩ := Option.bind_eq_some_iff.mp e
  cases e
  have sz : 100000 ≤ sizeLine := by rw [sizeLine_eq]; omega
  refine ⟨fun y hy => ?_, Nat.le_trans hl (Nat.le_trans (by decide) sz), fun H1 eN tS ps hps hco L hL => ?_⟩
  · obtain ⟨⟨qs, t1, t2, t3⟩, ga, np⟩ := R.tabs y hy
    refine ⟨qs, t1, t2, fun pos cv hc => ?_⟩
    obtain ⟨c, c1, c2⟩ := t3 pos cv hc
    exact ⟨c, c1, R.gh c _ c2⟩
  · obtain ⟨G1, x1, R1, allC⟩ := rel_lam2 R eN fun y hy => tS y hy
    have R2 := R1.new (o := .lst (ps.map fun p => V.ref p.1)) hL
    have x2 := Ext.new (o := HO.lst (ps.map fun p => V.ref p.1)) (R1.free hL)
    have gL : upd G1 L (.lst (ps.map fun p => V.ref p.1)) L = some (.lst (ps.map fun p => V.ref p.1)) := upd_same
    have gC : ∀ p ∈ ps, upd G1 L (.lst (ps.map fun p => V.ref p.1)) p.2 = some (CodeO p.2 q) := fun p hp => x2 _ _ (allC _ _ (hco p hp))
    have xx := x1.trans x2
    generalize upd G1 L (.lst (ps.map fun p => V.ref p.1)) = G2 at R2 gL gC xx
    generalize upd H1 L (.lst (ps.map fun p => V.ref p.1)) = H2 at R2
    refine ⟨.ref L, h0 _, L, rfl, ⟨_, .inl (.inl (R2.gh _ _ gL))⟩, fun D hD => ?_⟩
    have R3 := rel_hide R2 hD []
    have hn : ∀ (i : Nat) (x : Slo), (s.sl.map datOnly)[i]? = some (some x) → ∃ d, x = .dat d := fun i x z => by
      obtain ⟨_, d', e3, _⟩ := hid_get (vs := []) z
      exact ⟨d', e3⟩
    refine lc_list (K := K) (xs := ps.map fun p => V.ref p.1) (fun i HY => ∃ G3 bg acc ds rs, Ext G2 G3 ∧ Rel K β (upd (shut β H2 G2) D (.lst acc)) σ HY G3 ⟨s.sl.map datOnly, bg⟩ ∧ IsL K β G3 ds acc ∧ acc.length = i ∧
      triesD fl e0 (s.sl.map datOnly) (fs.drop i) bg = some (rs, bgF) ∧ ds ++ rs = ys) ⟨G2, s.bag, [], [], ys, Ext.refl _, R3, isl_nil.mpr rfl, rfl, e1, rfl⟩ ?_ ?_ ?_
    · rintro i HY hi ⟨G3, bg, acc, ds, rs, x3, R4, _⟩
      exact .inl (.inl (R4.gh _ _ (x3 _ _ gL)))
    · rintro i x HY hx ⟨G3, bg, acc, ds, rs, x3, R4, ia, la, e3, e4⟩
      rw [List.getElem?_map] at hx
      cases hp : ps[i]? with
      | none => rw [hp] at hx; cases hx
      | some p =>
        rw [hp] at hx
        cases hx
        have hi : i < fs.length := by rw [← hps]; exact (List.getElem?_eq_some_iff.mp hp).1
        have hf : fs[i]? = some fs[i] := List.getElem?_eq_getElem hi
        rw [List.drop_eq_getElem_cons hi] at e3
        unfold triesD at e3
        obtain ⟨⟨dy, s5⟩, e7, e3⟩ := Option.bind_eq_some_iff.mp e3
        obtain ⟨⟨zs, bz⟩, e8, e3⟩ := Option.bind_eq_some_iff.mp e3
        cases e3
        have at1 : ((wipe (L2.start N1 [V.ref L]) [1]).set 1 (some (V.ref p.1)))[1]? = some (some (V.ref p.1)) := List.getElem?_set_self (by rw [wipe_length]; exact h1 _)
        refine ⟨?_, ?_⟩
        · show ((wipe (L2.start N1 [V.ref L]) [1]).set 1 (some (V.ref p.1))).set 1 none = ((L2.start N1 [V.ref L]).set 1 none)
          show ((((L2.start N1 [V.ref L]).set 1 none)).set 1 (some (V.ref p.1))).set 1 none = ((L2.start N1 [V.ref L]).set 1 none)
          rw [List.set_set, List.set_set]
        · unfold tYes
          dsimp only
          rw [if_pos rfl]
          refine ⟨i, p, fun E => tOfX K fs[i] E, hp, by rw [List.getElem?_map, hf]; rfl, at1, R4.gh _ _ (x3 _ _ (gC p (List.mem_of_getElem? hp))), ?_⟩
          refine tt_try hT R4 e7 fun v H6 G6 x6 R6 i6 => ?_
          refine ⟨acc, (R6.pr D (.lst acc) upd_same).1, by rw [la]; exact Nat.lt_of_lt_of_le hi (Nat.le_trans hl (Nat.le_trans (by decide) sz)), G6, s5.bag, acc ++ [v], ds ++ [dy], zs, x3.trans x6, rel_acc R6 R4 x6 hn nx_lst, (IsL.mono x6 _ _ ia).snoc i6, by simp [la], e8, ?_⟩
          rw [← e4]
          simp
    · rintro HY ⟨G3, bg, acc, ds, rs, x3, R4, ia, la, e3, e4⟩
      rw [List.length_map, hps, List.drop_length] at e3
      cases e3
      rw [List.append_nil] at e4
      subst e4
      have qd := R4.pr D _ upd_same
      have xd : Ext G3 (upd G3 D (.lst acc)) := Ext.new qd.2
      exact k (.ref D) HY _ ((xx.trans x3).trans xd) (rel_done R2 hD R4 x3) (is_lst.mpr ⟨D, acc, rfl, upd_same, IsL.mono xd _ _ ia⟩)
omit [DL.Me] in
structure LamOne (X : Cx) (k : Nat) (e : Expr) (es : List Expr) (f : DMX) (r : LamR) : Prop where
  makes : Makes X Tabs.ts e r.params r.body r.scope
  star : starEach (e :: es) X.env = (false, eval e X.env) :: starEach es X.env
  own : LamS2 X.N X.env.scope r.scope
  body : ∀ (A : Around) (outer : List Env) (s : Shared) (H : Hp) (E : XK) (fa c' : Addr), Room k (A.deeper (lamEnv X r.scope s.heap.objs.size fa c')) → Takes (lamCx X A outer s H E r.scope fa c') (fun cls d _ H => E cls d H) → DEX (lamCx X A outer s H E r.scope fa c') E r.body f
omit [DL.Me] in
inductive Lams (X : Cx) (k : Nat) : List Expr → List DMX → List LamR → Prop where
  | nil : Lams X k [] [] []
  | cons {e : Expr} {es : List Expr} {f : DMX} {fs : List DMX} {r : LamR} {rs : List LamR} (h : LamOne X k e es f r) (t : Lams X k es fs rs) : Lams X k (e :: es) (f :: fs) (r :: rs)
section
variable {X : Cx}
theorem Lams.makes {k : Nat} {es : List Expr} {fs : List DMX} {rs : List LamR} (h : Lams X k es fs rs) : MakesL X Tabs.ts es rs := by
  induction h with
  | nil => trivial
  | cons h _ ih => exact ⟨h.makes, h.star, ih⟩
theorem Lams.own {k : Nat} {es : List Expr} {fs : List DMX} {rs : List LamR} (h : Lams X k es fs rs) : ∀ r ∈ rs, LamS2 X.N X.env.scope r.scope := by
  induction h with
  | nil => exact fun _ z => nomatch z
  | cons h _ ih => exact fun r hr => (List.mem_cons.mp hr).elim (fun e => e ▸ h.own) (ih r)
theorem Lams.len {k : Nat} {es : List Expr} {fs : List DMX} {rs : List LamR} (h : Lams X k es fs rs) : rs.length = fs.length := by
  induction h with
  | nil => rfl
  | cons h _ ih => exact congrArg Nat.succ ih
theorem Lams.body {k : Nat} {es : List Expr} {fs : List DMX} {rs : List LamR} (h : Lams X k es fs rs) : ∀ (i : Nat) (r : LamR) (t : XK → TE), rs[i]? = some r → (fs.map fun f E => tOfX X.K f E)[i]? = some t →
    ∀ (A : Around) (outer : List Env) (s : Shared) (H : Hp) (E : XK) (fa c' : Addr), Room k (A.deeper (lamEnv X r.scope s.heap.objs.size fa c')) → PE (lamCx X A outer s H E r.scope fa c') r.body (t E) := by
  induction h with
  | nil => intro i r t e; simp at e
  | cons h _ ih =>
    intro i r t e1 e2
    cases i with
    | zero =>
      simp at e1 e2
      subst e1 e2
      intro A outer s H E fa c' hr
      exact h.body A outer s H E fa c' hr (takes_of rfl rfl rfl rfl)
    | succ i => exact ih i r t (by simpa using e1) (by simpa using e2)
theorem de_tries {fl : List (Str × Str)} {e0 x1 x2 asks ask a : Str} {T1 T2 T3 g1 g2 : Addr} {st1 st2 : Stmt} {fd1 fd2 : FuncData} {N1 Ng : List Str} {es : List Expr} {rs : List LamR} {fs : List DMX} {k : Nat} {scope1 : Scope} {own1 : List (Str × Nat)} {p p0 p1 p2 p3 p4 p5 p6 p7 pos : Pos}
    (h1 : nsIn X.K mainGlobals "TableError" = some (some (.ref T1))) (h2 : nsIn X.K mainGlobals "Missing" = some (some (.ref T2))) (h3 : nsIn X.K mainGlobals "NothingLeft" = some (some (.ref T3)))
    (F1 : Fun X.K x1 x1 st1 g1 fd1) (Sc1 : FnScope N1 [asks] (defScope st1)) (hb1 : defBody st1 = [.Return (some (.ListComp (.Call (.Name x2 p1) [.Name ask p2] [] p3) [⟨.Name ask p4, .Name asks p5, [], 0⟩] scope1 p6)) p7]) (B1 : L2.Binds X.K fd1 [asks] []) (hg1 : Gl X x1) (hm1 : X.mg x1 = some (.ref g1))
    (ok1 : BlkOk N1 (defScope st1) scope1 own1) (ho : own1.map (·.2) = [1]) (hN0 : N1[0]? = some asks) (hN1 : N1[1]? = some ask) (hv0 : Vis (defScope st1) asks) (hl1 : (relS scope1 (defScope st1)).names.lookup ask = some .local) (h0 : ∀ v : V, (L2.start N1 [v])[0]? = some (some v)) (hl : ∀ v : V, 1 < (L2.start N1 [v]).length)
    (F2 : Fun X.K x2 x2 st2 g2 fd2) (Sc2 : FnScope Ng [a] (defScope st2)) (B2 : L2.Binds X.K fd2 [a] []) (hm2 : X.mg x2 = some (.ref g2)) (hg2 : (relS scope1 (defScope st1)).names.lookup x2 = some .globalImplicit) (hNg : Ng[0]? = some a) (hva : Vis (defScope st2) a)
    (hG : ∀ B : Cx, B.prog = X.prog → B.w = X.w → B.K = X.K → B.mg = X.mg → Room (k + 2) B.A → ∀ cdv, GivesTo B Ng x2 (defScope st2) g2 cdv (defBody st2) a (X.env.qual ++ "<lambda>") (TTtry X.K fl T1 T2 T3 e0))
    (M : Lams X k es fs rs) (hfn : ∀ y, X.fn y = true) (hr : Room (k + 3) X.A) (hlen : fs.length ≤ 1000)
    (hd1 : (x1 == ("__debug__" : Str)) = false := by decide) (hd2 : (x2 == ("__debug__" : Str)) = false := by decide) (hda : (a == ("__debug__" : Str)) = false := by decide) (hca : (a == ("__classdict__" : Str)) = false := by decide)
    (hdk : (ask == ("__debug__" : Str)) = false := by decide) (hck : (ask == ("__classdict__" : Str)) = false := by decide) (hds : (asks == ("__debug__" : Str)) = false := by decide) (hcs : (asks == ("__classdict__" : Str)) = false := by decide) :
    DE X (.Call (.Name x1 p) [.List es p0] [] pos) (mTries fl e0 fs) := by
  have pe := pe_tries (T := Tabs.ts) (ts := fs.map fun f E => tOfX X.K f E) (p := p) (p0 := p0) (pos := pos) F1 Sc1 hb1 B1 hg1 hm1 ok1 ho hN0 hN1 hv0 hl1 h0 F2 Sc2 B2 hm2 hg2 hNg hva hG M.makes hfn hr M.own M.body hd1 hd2 hda hca hdk hck hds hcs
  rw [M.len] at pe
  exact ⟨_, pe, te_tries (fun C nm T => T.ca _ _ _ h1 h2 h3) hlen h0 hl⟩
end
end DX
namespace DX
open PySem PySem.Spec PySem.Calls PyProof.Rows PySem.W L2 LamX DL
variable [DL.Tabs] [DL.Me]
omit [DL.Me] in
def gRep : Dt → Dt → Option Dt
  | .lst a, .int k => if 0 ≤ k ∧ k < 2147483648 ∧ a.length * k.toNat ≤ 100000 then some (.lst (List.replicate k.toNat a).flatten) else none
  | _, _ => none
theorem isl_rep {K : Frag} {β : Addr} {G : Hp} {a : List Dt} {vs : List V} (h : DL.IsL K β G a vs) : ∀ n : Nat, DL.IsL K β G (List.replicate n a).flatten (List.replicate n vs).flatten
  | 0 => isl_nil.mpr rfl
  | n + 1 => by
    rw [List.replicate_succ, List.replicate_succ, List.flatten_cons, List.flatten_cons]
    exact h.append (isl_rep h n)
theorem r2_rep {K : Frag} : R2ok K rRep gRep := by
  intro β P σ H G s x y dx dy d R ix iy h Q q
  unfold gRep at h
  split at h
  · rename_i a k
    split at h
    · rename_i c
      cases h
      obtain ⟨p, vs, rfl, h1, h2⟩ := is_lst.mp ix
      have sz : 100000 ≤ sizeLine := by rw [sizeLine_eq]; omega
      refine ⟨p, k, vs, rfl, is_int.mp iy, R.gh _ _ h1, by omega, by omega, by rw [h2.len]; exact Nat.le_trans c.2.2 sz, fun l hl => ?_⟩
      exact q _ _ _ (Ext.new (R.free hl)) (R.new hl) (is_lst.mpr ⟨l, _, rfl, upd_same, IsL.mono (Ext.new (R.free hl)) _ _ (isl_rep h2 _)⟩)
    · cases h
  · cases h
theorem de_rep {X : Cx} {a b : Expr} {fa fb : DM Dt} {pos : Pos} (ha : DE X a fa) (hb : DE X b fb) : DE X (.BinOp a .Mult b pos) (m2 gRep fa fb) := de_op op_rep r2_rep ha hb
end DX
set_option maxHeartbeats 4000000
namespace DX
open PySem PySem.Spec PySem.Calls PyProof.Rows PySem.W L2 DL
variable [DL.Tabs] [DL.Me]
omit [DL.Me] in
/-- what the scope of such an __init__ must be -/
structure SupScope (sc : Scope) (par : Str) : Prop where
  kind : sc.kind = .function
  co : sc.isCoroutine = false
  gen : sc.isGenerator = false
  cell : ∀ y ∈ sc.names, y.2 ≠ .cell
  free : ∀ y ∈ sc.names, y.2 = .free → y.1 = "__class__"
  kc : sc.names.lookup ("__class__" : Str) = some .free
  ks : sc.names.lookup ("super" : Str) = some .globalImplicit
  ls : sc.names.lookup ("self" : Str) = some .local
  lp : sc.names.lookup par = some .local
  ne : par ≠ "self"
  nd : (par == ("__debug__" : Str)) = false
  nc : (par == ("__classdict__" : Str)) = false
omit [DL.Me] in
def cxS (CX : CXT) (P : Program) (w : World) (K : Frag) (mg : Str → Option Value) (base : Heap) (N : List Str) (qual : Str) (scope : Scope) (f : Addr) (cd : Value) (cc : Addr) (A : Around) (outer : List Env) (s : Shared) (H : Hp) (E : XK) : Cx where
  prog := P
  w := w
  K := K
  mg := mg
  base := base
  A := A.deeper (ksEnv qual scope s.heap.objs.size f cd cc)
  N := N
  s_0 := s
  H_0 := H
  env := ksEnv qual scope s.heap.objs.size f cd cc
  outer := outer
  stack := ksEnv qual scope s.heap.objs.size f cd cc :: outer
  ex := []
  calm := true
  fn := fun _ => false
  pn := []
  xe := fun e s' => wpAny (model P w) (A.deeper (ksEnv qual scope s.heap.objs.size f cd cc)) (leaving (ksEnv qual scope s.heap.objs.size f cd cc) e) (fun _ s'' => CX outer H s E e s'') (fun e' s'' => CX outer H s E e' s'') s'
section
variable {CX : CXT} {P : Program} {w : World} {K : Frag} {mg : Str → Option Value} {base : Heap}
omit [DL.Tabs] [DL.Me] in
theorem inv_startS {qual par : Str} {scope : Scope} {f cc : Addr} {cd : Value} {A : Around} {outer : List Env} {s : Shared} {H : Hp} {E : XK} {us : List Value} {x y : V} {h₁ : Heap} {tk : Nat} {cl : Value} {cld : Option Addr} {v0 : Option Value} {csl : Array (Option Value)}
    (S : SupScope scope par) (hd : A.handled = none) (e0 : Env0 P w K mg base A outer s H) (r : Vals [x, y] us) (hcell : K.lookup cc = some ⟨cl, cld, .cell v0, csl⟩)
    (hns : h₁.Ns s.heap.objs.size fun z => ((["self", par] : List Str).zip us).reverse.lookup z) (kp : Sub s.heap h₁) :
    Inv (cxS CX P w K mg base ["self", par] qual scope f cd cc A outer s H E) [] (L2.start ["self", par] [x, y]) H { s with heap := h₁, toks := tk } := by
  have noB : ∀ b : Addr, b ∉ (cxS CX P w K mg base ["self", par] qual scope f cd cc A outer s H E).ex := fun b z => nomatch (show b ∈ ([] : List Addr) from z)
  have hb : base.get? cc = some ⟨cl, cld, .cell v0, csl⟩ := e0.mod.kin _ _ hcell
  have cm : ∀ {z c}, (cxS CX P w K mg base ["self", par] qual scope f cd cc A outer s H E).env.cells.lookup z = some c → z = "__class__" ∧ c = cc := fun {z c} e => by
    have e' : ([(("__class__" : Str), cc)] : List (Str × Addr)).lookup z = some c := e
    rw [List.lookup_cons] at e'
    split at e'
    · rename_i q
      cases e'
      exact ⟨eq_of_beq q, rfl⟩
    · cases e'
  cases r with
  | @cons _ u0 _ ur r0 rr =>
    cases rr with
    | @cons _ u1 _ ur1 r1 rn =>
      cases rn with
      | nil =>
        refine {
          ok := {
            mod := e0.mod
            kind := S.kind
            glob := rfl
            blt := rfl
            above := Nat.le_refl _
            inj := fun z1 z2 c e1 e2 => (cm e1).1.trans (cm e2).1.symm
            has := fun z hz => by
              have hz' : scope.names.lookup z = some .cell ∨ scope.names.lookup z = some .free := hz
              rcases hz' with q | q
              · exact absurd rfl (S.cell _ (PySem.mem_of_lookup q))
              · have e := S.free _ (PySem.mem_of_lookup q) rfl
                have e' : z = "__class__" := e
                subst e'
                exact ⟨cc, rfl⟩
            cab := fun z c q _ => nomatch (show false = true from q)
            hd := fun _ => hd
            frames := Around.frames_deeper e0.frames
            stk := .inr ⟨rfl, rfl⟩
            exf := fun b z => absurd z (noB b)
            bs := e0.bs
            bsz := e0.bsz
            noex := fun b _ _ => noB b
            exfs := fun b z => absurd z (noB b)
            funs := e0.funs
            frf := e0.frf }
          os := rfl
          bare := e0.bare
          base := Un.kept kp
          loc := ⟨_, hns, fun i z v e1 e2 e3 => ?_⟩
          cell := fun z c e => ⟨v0, by rw [(cm e).2]; exact ⟨_, kp _ _ (e0.bs _ _ hb).1, rfl⟩⟩
          free := e0.hok.fresh (Nat.le_refl _)
          freeC := fun z c e => by rw [(cm e).2]; exact (e0.bs _ _ hb).2
          pin := fun q hq => nomatch (show q ∈ ([] : List (Addr × Obj)) ++ [] from hq)
          hok := e0.hok.kept kp
          len := rfl }
        have ne : (("self" : Str) == par) = false := by
          cases q : (("self" : Str) == par) with
          | false => rfl
          | true => exact absurd (eq_of_beq q).symm S.ne
        have lk1 : ([(par, u1), (("self" : Str), u0)] : List (Str × Value)).lookup ("self" : Str) = some u0 := by
          rw [List.lookup_cons, ne]
          rfl
        have lk2 : ([(par, u1), (("self" : Str), u0)] : List (Str × Value)).lookup par = some u1 := by
          rw [List.lookup_cons, beq_self_eq_true]
        match i, e1, e2 with
        | 0, e1, e2 =>
          cases e1
          cases e2
          exact ⟨u0, r0, .inl ⟨S.ls, lk1⟩⟩
        | 1, e1, e2 =>
          cases e1
          cases e2
          exact ⟨u1, r1, .inl ⟨S.lp, lk2⟩⟩
        | i + 2, e1, e2 => cases e1
end
omit [DL.Me] in
/-- C.__init__(self, par), C's own -/
def spInitS (K : Frag) (C : Addr) (nm fld : Str) : Sp := fun vs H Q _ => ∃ a y, vs = [.ref a, y] ∧ H a = some (exo a C none) ∧ ErrC K C nm ∧ ∀ dx, H dx = none → dx ≠ a → Q .non (upd (upd H dx (exd dx [(fld, y), ("code", .str nm)])) a (exo a C (some dx)))
section
variable {CX : CXT} {P : Program} {w : World} {K : Frag} {mg : Str → Option Value} {base : Heap}
theorem fn_initS {k : Nat} {f f0 cc cda C : Addr} {name qual fld par nm file : Str} {params : Arguments} {scope : Scope} {fd0 : FuncData} {ar : Arg} {dV kV doc pm ct oc ccl cl : Value} {an od cdd cld : Option Addr} {osl ccs csl : Array (Option Value)} {vsc : Array Value} {tf : Tok} {p0 p1 p2 p3 p4 p5 p6 p7 p8 : Pos}
    (lk : K.lookup f = some ⟨oc, od, .func (ksFn name qual params [.Expr (.Call (.Attribute (.Call (.Name "super" p0) [] [] p1) "__init__" p2) [] [] p3) p4, .Assign [.Attribute (.Name "self" p5) fld p6] (.Name par p7) p8] scope dV kV doc pm an (.ref cda) ct cc), osl⟩)
    (hcd : codeIn K (.ref cda) qual = true) (S : SupScope scope par) (har : (params.posonlyargs ++ params.args).head? = some ar) (hself : ar.arg = "self")
    (hcode : K.lookup cda = some ⟨ccl, cdd, .fields vsc, ccs⟩) (hvs : vsc[2]? = some (.str file tf)) (hfile : ((P.main.file : Str) == file) = true)
    (hcell : K.lookup cc = some ⟨cl, cld, .cell (some (.ref C)), csl⟩) (htop : (P.main.scope.names.lookup ("super" : Str)).isSome = false) (hsuper : nsIn K mainGlobals "super" = some none)
    (hboot : bootBuiltins "super" = some (.type "super")) (hany : nsIn K cStatics "thirdparty.any" = some none)
    (hsub : mroIn K C (.ref C) = some true) (hm : ks_superIn K C C "__init__" = some (some (.ref f0))) (ht : typeIn K (.ref f0) = some (.type "function")) (hfn : fnIn K f0 = true) (hfld : PySem.W.findIn K (.ref C) fld = some none)
    (F0 : FnOk P w K mg base CX k f0 fd0 ["self"] (spInit K)) (bf0 : L2.Binds K fd0 ["self"] []) (hcx : ∀ outer H s e s', ¬ CX outer H s (fun _ _ _ => False) e s')
    (hev : ∀ L : Addr, ∃ pl : Sem Bool, eval (.Call (.Attribute (.Call (.Name "super" p0) [] [] p1) "__init__" p2) [] [] p3) (ksEnv qual scope L f (.ref cda) cc) = (do
      let ov ← attributeBase (.Call (.Name "super" p0) [] [] p1) "__init__" (ksEnv qual scope L f (.ref cda) cc) (eval (.Call (.Name "super" p0) [] [] p1) (ksEnv qual scope L f (.ref cda) cc))
      standAt p2.atName
      let (g, first) ← holding [ov] (getMethod ov "__init__" pl)
      callWith p3 g first (backTo p3 (starEach [] (ksEnv qual scope L f (.ref cda) cc))) [])) :
    FnOk P w K mg base CX (k + 1) f (ksFn name qual params [.Expr (.Call (.Attribute (.Call (.Name "super" p0) [] [] p1) "__init__" p2) [] [] p3) p4, .Assign [.Attribute (.Name "self" p5) fld p6] (.Name par p7) p8] scope dV kV doc pm an (.ref cda) ct cc) ["self", par] (spInitS K C nm fld) := by
  refine ⟨fun vs H Q E z => ?_, fun A outer s H args us vs Q E hr e0 hb r hsp => ?_⟩
  · obtain ⟨a, y, e, _⟩ := z
    rw [e]
    rfl
  obtain ⟨a, y, rfl, ea, T, q⟩ := hsp
  have KX : K.In s.heap := e0.mod.kin.keeps fun b o e => (e0.bs b o e).1
  have lim : s.heap.NoLimit := e0.mod.nolimit.keeps fun b o e => (e0.bs b o e).1
  have hl : us.length = 2 := r.length.symm
  obtain ⟨u0, u1, rfl⟩ : ∃ u0 u1, us = [u0, u1] := by
    match us, hl with
    | [u0, u1], _ => exact ⟨u0, u1, rfl⟩
  have r0 := r
  obtain rfl : u0 = .ref a := by
    cases r0 with
    | cons ra _ => exact ra
  refine ks_codeAny_call_defAt (fd := ksFn name qual params _ scope dV kV doc pm an (.ref cda) ct cc) (binds := (["self", par] : List Str).zip [.ref a, u1]) hr.depth (KX _ _ lk) rfl lim (codeRec_of KX hcd) rfl hb S.cell (fun z hz => ?_) (fun h₁ hns kp => ?_) S.co S.gen S.kind
  · have hz' : z ∈ [(("self" : Str), Value.ref a), (par, u1)] := hz
    rcases List.mem_cons.mp hz' with e | hz'
    · rw [e]
      exact S.ls
    · rcases List.mem_cons.mp hz' with e | hz'
      · rw [e]
        exact S.lp
      · cases hz'
  have I : Inv (cxS CX P w K mg base ["self", par] qual scope f (.ref cda) cc A outer s H E) [] (L2.start ["self", par] [.ref a, y]) H { s with heap := h₁, toks := s.toks + ((["self", par] : List Str).zip [Value.ref a, u1]).length } :=
    inv_startS S hr.hd e0 r hcell hns kp
  revert I
  generalize hs1 : ({ s with heap := h₁, toks := s.toks + ((["self", par] : List Str).zip [Value.ref a, u1]).length } : Shared) = s1
  intro I
  have hns1 : s1.heap.Ns s.heap.objs.size fun z => ((["self", par] : List Str).zip [Value.ref a, u1]).reverse.lookup z := by
    rw [← hs1]
    exact hns
  clear hs1 hns
  obtain ⟨hh, gg, dd, tt, os⟩ := s1
  let X := cxS CX P w K mg base ["self", par] qual scope f (.ref cda) cc A outer s H E
  have K1 : K.In hh := I.kIn
  obtain ⟨cB, newId, initId, bmB, cn, cq, nsp, bs, bm, sn, sub, ab, col, ddd, l0, l1, l2, l3, l5, _, _, hC, hbm⟩ := T.oex.cls
  have hcl : PySem.W.clsIn K C = some { name := cn, bases := bs, mro := .ref C :: bm, ns := nsp, qualname := cq, hasDict := true, slotNames := sn, subclasses := sub, abstract := ab, collection := col, hasDel := false } := by unfold PySem.W.clsIn; rw [hC] <;> rfl
  obtain ⟨t1, ho⟩ := exo_at I.hok ea
  have J : InstAt hh a { cls := .ref C, dict := none, data := .fields #[.ref t1, .none, .none, .none, .bool false, .none] } C none := ⟨ho, rfl, rfl, trivial⟩
  have hself1 : ((["self", par] : List Str).zip [Value.ref a, u1]).reverse.lookup ar.arg = some (.ref a) := by
    rw [hself]
    show ([(par, u1), (("self" : Str), Value.ref a)] : List (Str × Value)).lookup ("self" : Str) = some (.ref a)
    have ne : (("self" : Str) == par) = false := by
      cases z : (("self" : Str) == par) with
      | false => rfl
      | true => exact absurd (eq_of_beq z).symm S.ne
    rw [List.lookup_cons, ne]
    rfl
  obtain ⟨mb, hb1, hb2⟩ := I.mod.blt
  obtain ⟨pl, hev⟩ := hev s.heap.objs.size
  refine ks_wpAt_execs_cons (ks_wpAt_Expr_any (ks_wpAt_MethodCall (pl := pl) ?_ hev) I.quiet)
  refine ks_wpAt_super_base (env := ksEnv qual scope s.heap.objs.size f (.ref cda) cc) S.ks S.kc rfl rfl (K1 _ _ lk) rfl har rfl (K1 _ _ hcode) rfl hvs hfile htop ?_
  refine ks_loadName_global S.kind S.ks (loadGlobal_builtin (env := ksEnv qual scope s.heap.objs.size f (.ref cda) cc) (I.mod.glob.keeps I.bk) (mg_none_of I.mod.kin I.mod.glob hsuper) (hb1.keeps I.bk) ((hb2 _ (by decide)).trans hboot) ⟨rfl, ?_⟩)
  refine wpAny_loadName_free S.kind S.kc rfl ⟨_, K1 _ _ hcell, rfl⟩ ?_
  refine wpAny_loadName_local S.kind (by rw [hself]; exact S.ls) hns1 hself1 ?_
  refine ks_wpAny_isType_cls (K1 _ _ hC) rfl ⟨rfl, ?_⟩
  refine ks_wpAny_call_super (K1 _ _ hC) rfl ho rfl (fun c e => by cases e) (looks_mroIn K1 hsub) (fun h2 e2 k2 => ?_)
  obtain ⟨of, hof, hofc⟩ : ∃ of, hh.get? f0 = some of ∧ of.cls = .type "function" := by
    have ht' : (K.lookup f0).map (·.cls) = some (.type "function") := ht
    cases z : K.lookup f0 with
    | none => rw [z] at ht'; cases ht'
    | some of => rw [z] at ht'; exact ⟨of, K1 _ _ z, Option.some.inj ht'⟩
  have K2 : K.In h2 := K1.keeps k2
  have hm' : alongIn K "__init__" (((Value.ref C :: bm).dropWhile (· != .ref C)).drop 1) = some (some (.ref f0)) := by
    unfold ks_superIn at hm
    rw [hcl] at hm
    exact hm
  refine ks_wpAny_getMethod_super e2 (looks_opaque K2 hany) (l₀ := .ref C :: bm) (fun A Q E s k q => wpAny_bind ((looks_clsIn K2 hcl) A _ E s k (wpAny_pure q))) rfl K2 hm' (k2 _ _ hof) hofc (ks_ne K1 J hcl) rfl ?_
  have k3 : ∀ b o, hh.get? b = some o → (h2.push { cls := .type "method", data := .fields #[.ref f0, .ref a] }).get? b = some o := fun b o e => Heap.get?_push_of_some _ (k2 _ _ e)
  have hq3 : (h2.push { cls := .type "method", data := .fields #[.ref f0, .ref a] }).get? h2.objs.size = some (methodObj (.ref f0) (.ref a)) := Heap.get?_push_at rfl rfl
  have I3 : Inv X [] (L2.start ["self", par] [.ref a, y]) H ⟨h2.push { cls := .type "method", data := .fields #[.ref f0, .ref a] }, gg, dd, tt + 1, os⟩ := I.kept (t' := tt + 1) k3
  refine callWith_M0 (K := K) (first := []) ⟨hq3, I3.kIn⟩ hfn ?_
  show wpAny _ _ (call (.ref h2.objs.size) []) _ _ _
  refine wpAny_call (ks_codeAny_call_bound hq3 ?_)
  let QQ : VK := fun v H2 => v = .non ∧ ∃ dx, H dx = none ∧ dx ≠ a ∧ H2 = upd (upd H dx (exd dx [("code", .str nm)])) a (exo a C (some dx))
  have hsp : spInit K [.ref a] H QQ (fun _ _ _ => False) := ⟨a, C, nm, rfl, ea, T, fun dx n ne => ⟨rfl, dx, n, ne, rfl⟩⟩
  refine codeAny_mono (F0.run (A.deeper (ksEnv qual scope s.heap.objs.size f (.ref cda) cc)) X.stack _ H ⟨[.ref a], []⟩ [.ref a] [V.ref a] QQ (fun _ _ _ => False) (hr.deeper _) I3.env0 (bf0 _ [Value.ref a] I3.kIn rfl) (.cons rfl .nil) hsp) fun r s' z => ?_
  cases r with
  | error er => exact absurd z (hcx _ _ _ _ _)
  | ok fl =>
    cases fl with
    | ret u =>
      obtain ⟨v, H2, I4, rv, ev, dx, n, ne, eH⟩ := I3.after z
      subst ev
      subst eH
      refine wpAt_of_wpAny ?_
      have at0 : (L2.start ["self", par] [V.ref a, y])[0]? = some (some (V.ref a)) := rfl
      have at1 : (L2.start ["self", par] [V.ref a, y])[1]? = some (some y) := rfl
      refine wpAny_mono ((pss_one (ps_ostG (X := X) (f := fld) (p' := p6) (pos := p8) (pe_var (X := X) (i := 0) (x := "self") (pos := p5) rfl (.inl S.ls)) (pe_var (X := X) (i := 1) (x := par) (pos := p7) rfl (.inl S.lp) S.nd S.nc))).run [] s' _ _ { nx := fun _ H' => Q .non H', rt := Q } I4 ?_) (fun fl2 s2 hs2 => ?_) fun e s2 hs2 => hs2
      · refine ⟨y, at1, .ref a, at0, a, C, rfl, T.oex, hfld, .inr ⟨dx, [("code", .str nm)], upd_same, ?_, Nat.le_of_lt_succ (Nat.succ_lt_succ (by decide : 0 < 900)), ?_⟩⟩
        · rw [upd_ne ne, upd_same]
        · have eq : upd (upd (upd H dx (exd dx [("code", .str nm)])) a (exo a C (some dx))) dx (exd dx [(fld, y), ("code", .str nm)]) = upd (upd H dx (exd dx [(fld, y), ("code", .str nm)])) a (exo a C (some dx)) := by
            funext b
            by_cases hba : b = a
            · rw [hba, upd_ne (Ne.symm ne), upd_same, upd_same]
            · rw [upd_ne hba]
              by_cases hbd : b = dx
              · rw [hbd, upd_same, upd_same]
              · rw [upd_ne hbd, upd_ne hba, upd_ne hbd, upd_ne hbd]
          show Q .non (upd (upd (upd H dx (exd dx [("code", .str nm)])) a (exo a C (some dx))) dx (exd dx [(fld, y), ("code", .str nm)]))
          rw [eq]
          exact q dx n ne
      · have fin : ∀ {σ' : L2.St} {H' : Hp} {v : V} {u : Value}, Inv X [] σ' H' s2 → RelV v u → Q v H' → CE outer P w H s Q u s2 :=
          fun {σ' H' v u} J rv q => ⟨v, H', J.os, J.bare, J.base, J.hok, rv, q⟩
        cases fl2 with
        | ret u =>
          obtain ⟨v, σ', H', J, rv, q⟩ := hs2
          exact fin J rv q
        | next =>
          obtain ⟨σ', H', J, q⟩ := hs2
          exact fin (v := V.non) (u := Value.none) J rfl q
        | brk =>
          obtain ⟨_, _, _, q⟩ := hs2
          exact False.elim q
        | cont =>
          obtain ⟨_, _, _, q⟩ := hs2
          exact False.elim q
    | next => exact False.elim z
    | brk => exact False.elim z
    | cont => exact False.elim z
end
omit [DL.Me] in
def kRaiseF (nm fld : Str) (f : DM Dt) : DMsX := fun s => (f s).bind fun p => some (.ex ⟨nm, [(fld, p.1)]⟩, p.2)
section
variable {X : Cx} {W : XK}
theorem dsx_raiseF {CX : CXT} {nm x par fld : Str} {C fI : Addr} {k : Nat} {fd : FuncData} {e : Expr} {f : DM Dt} {p p2 pos : Pos} (hc : X.calm = true) (tk : Takes X (fun cls d _ H => W cls d H)) (T : ErrC X.K C nm) (iC : findIn X.K (.ref C) "__init__" = some (some (.ref fI))) (tI : typeIn X.K (.ref fI) = some (.type "function"))
    (F1 : FnOk X.prog X.w X.K X.mg X.base CX k fI fd ["self", par] (spInitS X.K C nm fld)) (hr : Room (k + 1) X.A) (hb : L2.Binds X.K fd ["self", par] []) (hx : Passes CX X (fun _ _ _ => False)) (hg : Gl X x) (hm : X.mg x = some (.ref C)) (he : DE X e f) (hfc : (("code" : Str) == fld) = false)
    (hdb : (x == ("__debug__" : Str)) = false := by decide) (hst : starEach [e] X.env = (false, eval e X.env) :: starEach [] X.env := by rfl) (hpl : (backTo p2 (starEach [] X.env)).any (·.1) = false := by rfl) : DSX X W (.Raise (some (.Call (.Name x p) [e] [] p2)) none pos) (kRaiseF nm fld f) := by
  obtain ⟨t, pe, ok⟩ := he
  have pr := ps_raise (pos := pos) hc tk (pmk_errG (p := p) (pos := p2) (es := []) T.oex iC tI F1 hr hb hx hg hm (pa_cons pe pa_nil hst) hdb hst hpl)
  refine ⟨fun pins s σ H D I k => pr.run pins s σ H D I ?_⟩
  obtain ⟨β, P, G, z, r, z', R, e1, q⟩ := k
  unfold kRaiseF at e1
  obtain ⟨⟨d, s1⟩, e2, e1⟩ := Option.bind_eq_some_iff.mp e1
  cases e1
  refine ok β P σ H G z d s1 R e2 _ fun v H1 G1 x1 R1 i1 => ?_
  refine ⟨Nat.succ_le_succ (Nat.zero_le _), fun a ha => ⟨a, v, rfl, upd_same, T, fun dx n ne => ?_⟩⟩
  rw [upd_ne ne] at n
  refine ⟨rfl, dx, [(fld, v), ("code", .str nm)], upd_same, by rw [upd_ne ne, upd_same], n, ?_⟩
  have eq : upd (del (upd (upd (upd H1 a (exo a C none)) dx (exd dx [(fld, v), ("code", .str nm)])) a (exo a C (some dx))) a) dx (.xd [(fld, v), ("code", .str nm)]) = upd H1 dx (.xd [(fld, v), ("code", .str nm)]) := by
    funext b
    by_cases hbd : b = dx
    · rw [hbd, upd_same, upd_same]
    · rw [upd_ne hbd, upd_ne hbd]
      by_cases hbe : b = a
      · rw [hbe, del_same, ha]
      · rw [del_ne hbe, upd_ne hbe, upd_ne hbd, upd_ne hbe]
  rw [eq]
  have xn := Ext.new (o := HO.xd [(fld, v), ("code", .str nm)]) (R1.free n)
  refine q C dx σ _ _ (x1.trans xn) (R1.new n) T ⟨_, upd_same, by rw [List.lookup_cons, hfc]; rfl, fun y hy => ?_⟩
  rcases List.mem_cons.mp hy with e | hy
  · subst e
    exact ⟨v, by rw [List.lookup_cons, beq_self_eq_true], IsD.mono xn _ _ i1⟩
  · cases hy
end
omit [DL.Me] in
/-- the class x at C keeps the field fld; its __init__ calls the base's, at f0 -/
structure ErrF (P : Program) (w : World) (K : Frag) (mg : Str → Option Value) (x fld : Str) (f0 : Addr) : Prop where
  fc : (("code" : Str) == fld) = false
  ex : ∃ (C fI : Addr) (fd : FuncData) (par : Str), mg x = some (.ref C) ∧ ErrC K C x ∧ findIn K (.ref C) "__init__" = some (some (.ref fI)) ∧ typeIn K (.ref fI) = some (.type "function") ∧ L2.Binds K fd ["self", par] [] ∧
    ∀ (base : Heap) (CX : CXT) (k : Nat) (fd0 : FuncData), FnOk P w K mg base CX k f0 fd0 ["self"] (spInit K) → L2.Binds K fd0 ["self"] [] → (∀ outer H s e s', ¬ CX outer H s (fun _ _ _ => False) e s') → FnOk P w K mg base CX (k + 1) fI fd ["self", par] (spInitS K C x fld)
section
variable {X : Cx} {W : XK}
theorem dsx_raiseFK {x fld : Str} {f0 : Addr} {k : Nat} {fd0 : FuncData} {e : Expr} {f : DM Dt} {p p2 pos : Pos} (T : ErrF X.prog X.w X.K X.mg x fld f0) (tk : Takes X (fun cls d _ H => W cls d H)) (hr : Room (k + 2) X.A)
    (F0 : FnOk X.prog X.w X.K X.mg X.base CX0 k f0 fd0 ["self"] (spInit X.K)) (hb0 : L2.Binds X.K fd0 ["self"] []) (hg : Gl X x) (he : DE X e f) (hc : X.calm = true := by rfl) (hdb : (x == ("__debug__" : Str)) = false := by decide)
    (hst : starEach [e] X.env = (false, eval e X.env) :: starEach [] X.env := by rfl) : DSX X W (.Raise (some (.Call (.Name x p) [e] [] p2)) none pos) (kRaiseF x fld f) := by
  obtain ⟨C, fI, fd, par, m, TC, i, t, hb, G⟩ := T.ex
  exact dsx_raiseF hc tk TC i t (G _ _ _ _ F0 hb0 fun _ _ _ _ _ h => h) hr hb (fun _ _ _ _ _ _ _ h => h.elim) hg m he T.fc hdb hst
end
omit [DL.Me] in
def supB (sc : Scope) (par : Str) : Bool := sc.kind == .function && !sc.isCoroutine && !sc.isGenerator && (sc.names.all fun y => y.2 != .cell) && (sc.names.all fun y => y.2 != .free || y.1 == "__class__") && (sc.names.lookup ("__class__" : Str) == some .free) && (sc.names.lookup ("super" : Str) == some .globalImplicit) &&
  (sc.names.lookup ("self" : Str) == some .local) && (sc.names.lookup par == some .local) && (par != "self") && !(par == ("__debug__" : Str)) && !(par == ("__classdict__" : Str))
theorem sup_by {sc : Scope} {par : Str} (h : supB sc par = true) : SupScope sc par := by
  unfold supB at h
  simp only [Bool.and_eq_true, List.all_eq_true, beq_iff_eq, Bool.not_eq_true', bne_iff_ne, Bool.or_eq_true] at h
  obtain ⟨⟨⟨⟨⟨⟨⟨⟨⟨⟨⟨h1, h2⟩, h3⟩, h4⟩, h5⟩, h6⟩, h7⟩, h8⟩, h9⟩, h10⟩, h11⟩, h12⟩ := h
  exact ⟨h1, h2, h3, h4, fun y hy e => (h5 y hy).resolve_left fun z => z e, h6, h7, h8, h9, h10, h11, h12⟩
theorem errF_of {P : Program} {w : World} {K : Frag} {mg : Str → Option Value} {x fld qual par file : Str} {f0 C fI cc cda : Addr} {st : Stmt} {ar : Arg} {dV kV doc pm ct oc ccl cl : Value} {an od cdd cld : Option Addr} {osl ccs csl : Array (Option Value)} {vsc : Array Value} {tf : Tok} {p0 p1 p2 p3 p4 p5 p6 p7 p8 : Pos}
    (m : mg x = some (.ref C)) (T : ErrC K C x) (iC : findIn K (.ref C) "__init__" = some (some (.ref fI))) (tI : typeIn K (.ref fI) = some (.type "function"))
    (lk : K.lookup fI = some ⟨oc, od, .func (ksFn "__init__" qual (defArgs st) (defBody st) (defScope st) dV kV doc pm an (.ref cda) ct cc), osl⟩) (hcd : codeIn K (.ref cda) qual = true)
    (hcode : K.lookup cda = some ⟨ccl, cdd, .fields vsc, ccs⟩) (hvs : vsc[2]? = some (.str file tf)) (hfile : ((P.main.file : Str) == file) = true) (hcell : K.lookup cc = some ⟨cl, cld, .cell (some (.ref C)), csl⟩)
    (htop : (P.main.scope.names.lookup ("super" : Str)).isSome = false) (hsuper : nsIn K mainGlobals "super" = some none) (hany : nsIn K cStatics "thirdparty.any" = some none)
    (hsub : mroIn K C (.ref C) = some true) (hm : ks_superIn K C C "__init__" = some (some (.ref f0))) (ht : typeIn K (.ref f0) = some (.type "function")) (hfn : fnIn K f0 = true)
    (S : SupScope (defScope st) par) (har : ((defArgs st).posonlyargs ++ (defArgs st).args).head? = some ar) (hself : ar.arg = "self") (hfl : fld ∈ errFields) (hfc : (("code" : Str) == fld) = false) (hboot : bootBuiltins "super" = some (.type "super"))
    (hb : L2.Binds K (ksFn "__init__" qual (defArgs st) (defBody st) (defScope st) dV kV doc pm an (.ref cda) ct cc) ["self", par] [])
    (hbody : defBody st = [.Expr (.Call (.Attribute (.Call (.Name "super" p0) [] [] p1) "__init__" p2) [] [] p3) p4, .Assign [.Attribute (.Name "self" p5) fld p6] (.Name par p7) p8])
    (hev : ∀ L : Addr, ∃ pl : Sem Bool, eval (.Call (.Attribute (.Call (.Name "super" p0) [] [] p1) "__init__" p2) [] [] p3) (ksEnv qual (defScope st) L fI (.ref cda) cc) = (do
      let ov ← attributeBase (.Call (.Name "super" p0) [] [] p1) "__init__" (ksEnv qual (defScope st) L fI (.ref cda) cc) (eval (.Call (.Name "super" p0) [] [] p1) (ksEnv qual (defScope st) L fI (.ref cda) cc))
      standAt p2.atName
      let (g, first) ← holding [ov] (getMethod ov "__init__" pl)
      callWith p3 g first (backTo p3 (starEach [] (ksEnv qual (defScope st) L fI (.ref cda) cc))) [])) : ErrF P w K mg x fld f0 := by
  refine ⟨hfc, C, fI, _, par, m, T, iC, tI, hb, fun base CX k fd0 F0 b0 hcx => ?_⟩
  rw [hbody] at lk ⊢
  exact fn_initS lk hcd S har hself hcode hvs hfile hcell htop hsuper hboot hany hsub hm ht hfn (T.nof hfl) F0 b0 hcx hev
end DX
set_option maxHeartbeats 4000000
namespace DX
open PySem PySem.Spec PySem.Calls PyProof.Rows PySem.W L2 DL
end DX
set_option maxHeartbeats 4000000
namespace DX
open PySem PySem.Spec PySem.Calls PyProof.Rows PySem.W L2 LamX DL
open L2H (RoomH)
variable [DL.Tabs] [DL.Me]
omit [DL.Me] in
/-- more pins, that every state bears -/
def pinX (X : Cx) (pn : List (Addr × Obj)) : Cx := { X with pn := pn ++ X.pn }
section
variable {X : Cx} {pn pins : List (Addr × Obj)} {σ : L2.St} {H : Hp} {s : Shared}
theorem ok_pin (h : X.Ok) : (pinX X pn).Ok := ⟨h.mod, h.kind, h.glob, h.blt, h.above, h.inj, h.has, h.cab, h.hd, h.frames, h.stk, h.exf, h.bs, h.bsz, h.noex, h.exfs, h.funs, h.frf⟩
theorem ok_unpin (h : (pinX X pn).Ok) : X.Ok := ⟨h.mod, h.kind, h.glob, h.blt, h.above, h.inj, h.has, h.cab, h.hd, h.frames, h.stk, h.exf, h.bs, h.bsz, h.noex, h.exfs, h.funs, h.frf⟩
theorem inv_pin (I : Inv X pins σ H s) (h : ∀ p ∈ pn, s.heap.get? p.1 = some p.2 ∧ H p.1 = none ∧ p.1 ≠ X.env.locals ∧ p.1 ∉ X.fs ∧ ∀ v, p.2.data ≠ .cell v) : Inv (pinX X pn) pins σ H s :=
  ⟨ok_pin I.ok, I.os, I.bare, I.base, I.loc, I.cell, I.free, I.freeC, fun p hp => by
    have hp' : p ∈ (pn ++ X.pn) ++ pins := hp
    rw [List.append_assoc] at hp'
    exact (List.mem_append.mp hp').elim (h p) (I.pin p), I.hok, I.len⟩
theorem inv_unpin (I : Inv (pinX X pn) pins σ H s) : Inv X pins σ H s :=
  ⟨ok_unpin I.ok, I.os, I.bare, I.base, I.loc, I.cell, I.free, I.freeC, fun p hp => I.pin p (by
    show p ∈ (pn ++ X.pn) ++ pins
    rw [List.append_assoc]
    exact List.mem_append_right _ hp), I.hok, I.len⟩
end
omit [DL.Me] in
/-- where pn stands, the lambdas ps live -/
def LamPins (X : Cx) (pn : List (Addr × Obj)) (rs : List LamR) (ps : List (Addr × Addr)) : Prop := ∀ (g : Heap) (H : Hp), (∀ p ∈ pn, g.get? p.1 = some p.2) → (∀ p ∈ ps, H p.2 = some (CodeO p.2 (X.env.qual ++ "<lambda>"))) → LvL X g H rs ps
theorem lam_pins {X : Cx} {g : Heap} {H : Hp} : ∀ {rs : List LamR} {ps : List (Addr × Addr)}, LvL X g H rs ps → ∃ pn, (∀ p ∈ pn, g.get? p.1 = some p.2 ∧ ∀ v, p.2.data ≠ .cell v) ∧ LamPins X pn rs ps
  | [], [], _ => ⟨[], (fun p hp => nomatch hp), (fun _ _ _ _ => trivial)⟩
  | r :: rs, p :: ps, h => by
    obtain ⟨⟨⟨dV, doc, pm, ctv, bs, l, v1, v2, v4, v3⟩, hc⟩, ht⟩ := h
    obtain ⟨pn, a1, a2⟩ := lam_pins ht
    refine ⟨(p.1, lamOb X r.params r.body r.scope dV doc pm p.2 ctv) :: (l ++ pn), fun q hq => ?_, fun g' H' hg hcs => ?_⟩
    · rcases List.mem_cons.mp hq with e | hq
      · rw [e]
        exact ⟨v1, fun v z => by cases z⟩
      · exact (List.mem_append.mp hq).elim (v4 q) (a1 q)
    · refine ⟨⟨⟨dV, doc, pm, ctv, bs, l, hg _ List.mem_cons_self, v2, fun q hq => ⟨hg q (List.mem_cons_of_mem _ (List.mem_append_left _ hq)), (v4 q hq).2⟩, v3⟩, hcs p List.mem_cons_self⟩, ?_⟩
      exact a2 g' H' (fun q hq => hg q (List.mem_cons_of_mem _ (List.mem_append_right _ hq))) fun q hq => hcs q (List.mem_cons_of_mem _ hq)
  | [], _ :: _, h => h.elim
  | _ :: _, [], h => h.elim
section
variable {X : Cx}
/-- x = [lambda: .., ..], then rest, that knows the lambdas -/
theorem pss_lamvar {T : List (Addr × Str)} {x : Str} {i : Nat} {es : List Expr} {rs : List LamR} {rest : List Stmt} {t2 : List (Addr × Addr) → TS} {px p0 pos : Pos} (M : MakesL X T es rs) (hN : X.N.Nodup) (hy : X.N[i]? = some x) (hx : Loc X.env.scope x)
    (h2 : ∀ (ps : List (Addr × Addr)) (pn : List (Addr × Obj)), ps.length = rs.length → LamPins X pn rs ps → PSs (pinX X pn) rest (t2 ps))
    (hst : X.stack = X.env :: X.outer := by rfl) (hfr : X.env.frame = some X.env.locals := by rfl) (hs : swapsWith (.List es p0) (some (.Name x px)) pos.line X.env = pure false := by rfl) (hf : X.fn x = true ∨ X.env.scope.names.lookup x = some .local := by first | exact .inl rfl | exact .inr rfl | assumption) :
    PSs X (.Assign [.Name x px] (.List es p0) pos :: rest) (fun D σ H => LamX.Tabs T H ∧ rs.length ≤ sizeLine ∧ ∀ H1, ExtN H H1 → LamX.Tabs T H1 → ∀ ps : List (Addr × Addr), ps.length = rs.length → (∀ p ∈ ps, H1 p.2 = some (CodeO p.2 (X.env.qual ++ "<lambda>"))) → ∀ L, H1 L = none →
      t2 ps D (σ.set i (some (.ref L))) (upd H1 L (.lst (ps.map fun p => V.ref p.1)))) := by
  refine ⟨fun pins s σ H D I h => ?_⟩
  obtain ⟨hT, hz, h⟩ := h
  refine wpAny_execs_cons (wpAny_Assign_Name (wpAny_List_spliced (makes_list M I hT fun ps H1 s1 I1 eN T1 k1 v1 => ⟨by rw [List.length_map, v1.len]; exact hz, ?_⟩)) hs)
  have hf1 : H1 s1.heap.objs.size = none := I1.hok.fresh (Nat.le_refl _)
  have hps := v1.len
  generalize hLs : s1.heap.objs.size = La at hf1 ⊢
  generalize hs2 : ({ s1 with heap := s1.heap.push { cls := .type "list", data := .seq (ps.map fun p => Value.ref p.1).toArray } } : Shared) = s2
  have vals : ∀ l : List (Addr × Addr), Vals (l.map fun p => V.ref p.1) (l.map fun p => Value.ref p.1) := fun l => by
    induction l with
    | nil => exact .nil
    | cons b r ih => exact .cons rfl ih
  have I2 : Inv X pins σ (upd H1 La (.lst (ps.map fun p => V.ref p.1))) s2 := by
    rw [← hs2]
    refine I1.laid (t' := s1.toks) (fun b u e => Heap.get?_push_of_some _ e) (Nat.le_of_eq hLs) ⟨?_, _, 0, vals ps, ?_⟩
    · rw [List.length_map, hps]; exact hz
    · rw [← hLs]; exact Heap.get?_push_size _ rfl
  have k2 : Sub (grd s1.heap H1 X.stack) (grd s2.heap (upd H1 La (.lst (ps.map fun p => V.ref p.1))) X.stack) := fun b o e => by
    obtain ⟨e1, e2, e3⟩ := grd_of e
    refine grd_in (by rw [← hs2]; exact Heap.get?_push_of_some _ e1) ?_ e3
    rw [upd_ne (fun z => by rw [z, ← hLs] at e1; exact Nat.lt_irrefl _ (Heap.lt_size e1))]
    exact e2
  have v2 : LvL X (grd s2.heap (upd H1 La (.lst (ps.map fun p => V.ref p.1))) X.stack) (upd H1 La (.lst (ps.map fun p => V.ref p.1))) rs ps := v1.mono k2 fun b o e n => by
    rw [upd_ne (ne_of_none e hf1)]; exact e
  have hq := h H1 eN T1 ps hps v1.code La hf1
  generalize upd H1 La (.lst (ps.map fun p => V.ref p.1)) = H2 at I2 k2 v2 hq
  obtain ⟨pn, a1, a2⟩ := lam_pins v2
  refine store_ok2 I2 hN hy hx (v := .ref La) rfl (fun s3 I3 ⟨a, sb, ha⟩ => ?_) hf
  have I4 : Inv (pinX X pn) pins (σ.set i (some (.ref La))) H2 s3 := by
    refine inv_pin I3 fun p hp => ?_
    obtain ⟨g1, g2⟩ := a1 p hp
    obtain ⟨e1, e2, e3⟩ := grd_of g1
    have ef : frs X.stack = X.env.locals :: frs X.outer := by
      rw [hst]
      unfold frs
      rw [List.filterMap_cons, hfr]
    rw [ef] at e3
    have nl : p.1 ≠ X.env.locals := fun z => e3 (by rw [z]; exact List.mem_cons_self)
    refine ⟨(sb.2 p.1 fun z => ?_).trans e1, e2, nl, fun z => e3 (List.mem_cons_of_mem _ z), g2⟩
    rcases ha with q | q
    · exact nl (z.trans q)
    · obtain ⟨v, o, ho, hd⟩ := I2.cell x a q
      rw [← z, e1] at ho
      cases ho
      exact g2 v hd
  refine wpAny_mono ((h2 ps pn hps a2).run pins s3 _ H2 D I4 hq) (fun fl s4 q => ?_) fun _ _ z => z
  cases fl with
  | next => exact let ⟨σ', H', J, q⟩ := q; ⟨σ', H', inv_unpin J, q⟩
  | ret v => exact let ⟨u, σ', H', J, q⟩ := q; ⟨u, σ', H', inv_unpin J, q⟩
  | brk => exact let ⟨σ', H', J, q⟩ := q; ⟨σ', H', inv_unpin J, q⟩
  | cont => exact let ⟨σ', H', J, q⟩ := q; ⟨σ', H', inv_unpin J, q⟩
/-- the call of tries with a list of lambdas that stands -/
theorem tries_call {x1 x2 asks ask a : Str} {g1 g2 : Addr} {st1 st2 : Stmt} {fd1 fd2 : FuncData} {N1 Ng : List Str} {rs : List LamR} {k : Nat} {ts : List (XK → TE)} {TT : (XK → Hp → VK → Prop) → Hp → VK → Prop} {scope1 : Scope} {own1 : List (Str × Nat)} {p1 p2 p3 p4 p5 p6 p7 : Pos}
    (F1 : Fun X.K x1 x1 st1 g1 fd1) (Sc1 : FnScope N1 [asks] (defScope st1)) (hb1 : defBody st1 = [.Return (some (.ListComp (.Call (.Name x2 p1) [.Name ask p2] [] p3) [⟨.Name ask p4, .Name asks p5, [], 0⟩] scope1 p6)) p7]) (B1 : L2.Binds X.K fd1 [asks] [])
    (ok1 : BlkOk N1 (defScope st1) scope1 own1) (ho : own1.map (·.2) = [1]) (hN0 : N1[0]? = some asks) (hN1 : N1[1]? = some ask) (hv0 : Vis (defScope st1) asks) (hl1 : (relS scope1 (defScope st1)).names.lookup ask = some .local) (h0 : ∀ v : V, (L2.start N1 [v])[0]? = some (some v))
    (F2 : Fun X.K x2 x2 st2 g2 fd2) (Sc2 : FnScope Ng [a] (defScope st2)) (B2 : L2.Binds X.K fd2 [a] []) (hm2 : X.mg x2 = some (.ref g2)) (hg2 : (relS scope1 (defScope st1)).names.lookup x2 = some .globalImplicit) (hNg : Ng[0]? = some a) (hva : Vis (defScope st2) a)
    (hG : ∀ B : Cx, B.prog = X.prog → B.w = X.w → B.K = X.K → B.mg = X.mg → Room (k + 2) B.A → ∀ cdv, GivesTo B Ng x2 (defScope st2) g2 cdv (defBody st2) a (X.env.qual ++ "<lambda>") TT)
    (hfn : ∀ y, X.fn y = true) (hr : Room (k + 3) X.A) (L : ∀ r ∈ rs, LamS2 X.N X.env.scope r.scope)
    (hbody : ∀ (i : Nat) (r : LamR) (t : XK → TE), rs[i]? = some r → ts[i]? = some t → ∀ (A : Around) (outer : List Env) (s : Shared) (H : Hp) (E : XK) (f c' : Addr), Room k (A.deeper (lamEnv X r.scope s.heap.objs.size f c')) → PE (lamCx X A outer s H E r.scope f c') r.body (t E))
    {pins : List (Addr × Obj)} {σ : L2.St} {H2 : Hp} {s2 : Shared} {La : Addr} {ps : List (Addr × Addr)} {Q : VK} (I2 : Inv X pins σ H2 s2) (v2 : LvL X (grd s2.heap H2 X.stack) H2 rs ps)
    (hq : tLc (iList X.K (tVar 0)) (gName 1) tYes (teEl (X.env.qual ++ "<lambda>") TT ts ps σ) [1] (L2.start N1 [.ref La]) H2 Q)
    (hd2 : (x2 == ("__debug__" : Str)) = false := by decide) (hda : (a == ("__debug__" : Str)) = false := by decide) (hca : (a == ("__classdict__" : Str)) = false := by decide)
    (hdk : (ask == ("__debug__" : Str)) = false := by decide) (hck : (ask == ("__classdict__" : Str)) = false := by decide) (hds : (asks == ("__debug__" : Str)) = false := by decide) (hcs : (asks == ("__classdict__" : Str)) = false := by decide) :
    wpAny (model X.prog X.w) X.A (call (.ref g1) [.ref La]) (EP X pins σ Q) X.xe s2 := by
  have e0 := grd_env0 I2
  have kb := grd_base I2
  have kz : X.base.objs.size ≤ (grd s2.heap H2 X.stack).objs.size := by
    unfold grd
    rw [hideAll_size]
    exact Nat.le_trans I2.ok.bsz I2.sz
  generalize hgr : grd s2.heap H2 X.stack = g at e0 kb kz v2
  have snap : ∀ r ∈ rs, Snap X g σ r.scope := fun r hr' => by rw [← hgr]; exact snap_of I2 (L r hr') hfn
  have okX := I2.ok
  have rc : codeAny (model X.prog X.w) X.A (.call (.ref g1) ⟨[.ref La], []⟩) (CR C8.CX0 X.stack X.prog X.w H2 s2 Q C8.E0) s2 := by
    obtain ⟨oc, od, kV, doc, pm, an, cdv, ct, osl, rfl, lk, hcg⟩ := F1.ex
    refine run_ofS (base := g) (N := N1) (ps := [asks]) (us := [.ref La]) (vs := [.ref La]) lk hcg Sc1 hr e0 (B1 s2 [.ref La] I2.kIn rfl) (.cons rfl .nil) rfl fun hr1 => ?_
    generalize hY : cxOf C8.CX0 X.prog X.w X.K X.mg g N1 x1 (defScope st1) g1 cdv X.A X.stack s2 H2 C8.E0 = Y
    refine ⟨tRet (tLc (iList X.K (tVar 0)) (gName 1) tYes (teEl (X.env.qual ++ "<lambda>") TT ts ps σ) [1]), ?_, hq⟩
    rw [hb1]
    refine PSs.nox (pss_one (ps_ret ?_))
    rw [← ho]
    refine pe_lc (X := Y.nox) (own := own1) ?_ ?_ ?_ ?_ (fun s3 H3 C cl fp => ?_) (fun s3 H3 C cl fp => pts_nil) (fun s3 H3 C cl fp => ?_)
    · rw [← hY]; rfl
    · rw [← hY]; exact Sc1.nd
    · have e : X.K = Y.nox.K := by rw [← hY]; rfl
      rw [e]
      exact pi_list (pe_var (i := 0) (by rw [← hY]; exact hN0) (by rw [← hY]; exact hv0) hds hcs)
    · rw [← hY]; exact ok1
    · refine pg_name (i := 1) ?_ ?_ (.inl ?_) (.inr ?_)
      · rw [← hY]; exact Sc1.nd
      · rw [← hY]; exact hN1
      · rw [← hY]; exact hl1
      · rw [← hY]; exact hl1
    · have bK : (Y.nox.blk s3 H3 scope1 (compEnvC scope1 cl C Y.nox.env) fp).K = X.K := by rw [← hY]; rfl
      have bM : (Y.nox.blk s3 H3 scope1 (compEnvC scope1 cl C Y.nox.env) fp).mg = X.mg := by rw [← hY]; rfl
      have bB : (Y.nox.blk s3 H3 scope1 (compEnvC scope1 cl C Y.nox.env) fp).base = g := by rw [← hY]; rfl
      have bA : Room (k + 2) (Y.nox.blk s3 H3 scope1 (compEnvC scope1 cl C Y.nox.env) fp).A := by rw [← hY]; exact hr1
      have bP : (Y.nox.blk s3 H3 scope1 (compEnvC scope1 cl C Y.nox.env) fp).prog = X.prog := by rw [← hY]; rfl
      have bW : (Y.nox.blk s3 H3 scope1 (compEnvC scope1 cl C Y.nox.env) fp).w = X.w := by rw [← hY]; rfl
      have bN : (Y.nox.blk s3 H3 scope1 (compEnvC scope1 cl C Y.nox.env) fp).N = N1 := by rw [← hY]; rfl
      have bS : (Y.nox.blk s3 H3 scope1 (compEnvC scope1 cl C Y.nox.env) fp).env.scope = relS scope1 (defScope st1) := by rw [← hY]; rfl
      generalize Y.nox.blk s3 H3 scope1 (compEnvC scope1 cl C Y.nox.env) fp = B at bK bM bB bA bP bW bN bS ⊢
      refine pe_elem (HL := H2) bP bW bK bM okX (by rw [bB]; exact kb) (by rw [bB]; exact kz) (by rw [bB]; exact v2) (fun r hr' => by rw [bB]; exact snap r hr') L (by rw [bK]; exact F2) Sc2 (by rw [bK]; exact B2) (by rw [bM]; exact hm2) ?_ hNg hva bA (by rw [bN]; exact hN1) ?_ (hG B bP bW bK bM bA) hbody hd2 hda hca hdk hck
      · show B.env.scope.names.lookup x2 = _
        rw [bS]; exact hg2
      · rw [bS]; exact .inl hl1
  refine wpAny_call (codeAny_mono rc fun r s3 hq => ?_)
  cases r with
  | error e => exact (show False from hq).elim
  | ok fl =>
    cases fl with
    | ret u => exact I2.after hq
    | next => exact hq.elim
    | brk => exact hq.elim
    | cont => exact hq.elim
omit [DL.Me] in
def tTriesV (K : Frag) (j : Nat) (q : Str) (N1 : List Str) (TT : (XK → Hp → VK → Prop) → Hp → VK → Prop) (ts : List (XK → TE)) (ps : List (Addr × Addr)) : TE := fun σ H Q =>
  ∃ La, σ[j]? = some (some (.ref La)) ∧ (∀ p ∈ ps, H p.2 = some (CodeO p.2 q)) ∧ tLc (iList K (tVar 0)) (gName 1) tYes (teEl q TT ts ps σ) [1] (L2.start N1 [.ref La]) H Q
theorem pe_triesV {x1 x2 asks ask a xv : Str} {g1 g2 : Addr} {st1 st2 : Stmt} {fd1 fd2 : FuncData} {N1 Ng : List Str} {rs : List LamR} {k j : Nat} {ts : List (XK → TE)} {TT : (XK → Hp → VK → Prop) → Hp → VK → Prop} {scope1 : Scope} {own1 : List (Str × Nat)} {ps : List (Addr × Addr)} {pn : List (Addr × Obj)} {p p0 p1 p2 p3 p4 p5 p6 p7 pos : Pos}
    (F1 : Fun X.K x1 x1 st1 g1 fd1) (Sc1 : FnScope N1 [asks] (defScope st1)) (hb1 : defBody st1 = [.Return (some (.ListComp (.Call (.Name x2 p1) [.Name ask p2] [] p3) [⟨.Name ask p4, .Name asks p5, [], 0⟩] scope1 p6)) p7]) (B1 : L2.Binds X.K fd1 [asks] []) (hg1 : Gl X x1) (hm1 : X.mg x1 = some (.ref g1))
    (ok1 : BlkOk N1 (defScope st1) scope1 own1) (ho : own1.map (·.2) = [1]) (hN0 : N1[0]? = some asks) (hN1 : N1[1]? = some ask) (hv0 : Vis (defScope st1) asks) (hl1 : (relS scope1 (defScope st1)).names.lookup ask = some .local) (h0 : ∀ v : V, (L2.start N1 [v])[0]? = some (some v))
    (F2 : Fun X.K x2 x2 st2 g2 fd2) (Sc2 : FnScope Ng [a] (defScope st2)) (B2 : L2.Binds X.K fd2 [a] []) (hm2 : X.mg x2 = some (.ref g2)) (hg2 : (relS scope1 (defScope st1)).names.lookup x2 = some .globalImplicit) (hNg : Ng[0]? = some a) (hva : Vis (defScope st2) a)
    (hG : ∀ B : Cx, B.prog = X.prog → B.w = X.w → B.K = X.K → B.mg = X.mg → Room (k + 2) B.A → ∀ cdv, GivesTo B Ng x2 (defScope st2) g2 cdv (defBody st2) a (X.env.qual ++ "<lambda>") TT)
    (hfn : ∀ y, X.fn y = true) (hr : Room (k + 3) X.A) (L : ∀ r ∈ rs, LamS2 X.N X.env.scope r.scope)
    (hbody : ∀ (i : Nat) (r : LamR) (t : XK → TE), rs[i]? = some r → ts[i]? = some t → ∀ (A : Around) (outer : List Env) (s : Shared) (H : Hp) (E : XK) (f c' : Addr), Room k (A.deeper (lamEnv X r.scope s.heap.objs.size f c')) → PE (lamCx X A outer s H E r.scope f c') r.body (t E))
    (hpn : LamPins X pn rs ps) (hin : ∀ p ∈ pn, p ∈ X.pn) (hxv : X.N[j]? = some xv) (hvv : Vis X.env.scope xv) (hst : X.stack = X.env :: X.outer := by rfl) (hfr : X.env.frame = some X.env.locals := by rfl)
    (hd1 : (x1 == ("__debug__" : Str)) = false := by decide) (hd2 : (x2 == ("__debug__" : Str)) = false := by decide) (hda : (a == ("__debug__" : Str)) = false := by decide) (hca : (a == ("__classdict__" : Str)) = false := by decide)
    (hdk : (ask == ("__debug__" : Str)) = false := by decide) (hck : (ask == ("__classdict__" : Str)) = false := by decide) (hds : (asks == ("__debug__" : Str)) = false := by decide) (hcs : (asks == ("__classdict__" : Str)) = false := by decide)
    (hdv : (xv == ("__debug__" : Str)) = false := by decide) (hcv : (xv == ("__classdict__" : Str)) = false := by decide) :
    PE X (.Call (.Name x1 p) [.Name xv p0] [] pos) (tTriesV X.K j (X.env.qual ++ "<lambda>") N1 TT ts ps) := by
  refine ⟨fun pins s σ H Q I h => ?_⟩
  obtain ⟨La, hσ, hcs2, hq⟩ := h
  refine wpAny_Call_Name_kw (ld_glob I hg1 hm1 ?_ hd1)
  refine PySem.W.callWith_K (h₀ := X.base) I.ok.mod.kin F1.kp ?_ (by rfl) (by rfl)
  show wpAny _ _ (spliced ((false, eval (.Name xv p0) X.env) :: backTo pos (starEach [] X.env))) _ _ s
  refine Calls.spliced_cons (thn ((pe_var (pos := p0) (i := j) hxv hvv hdv hcv).run pins s σ H (fun v H1 => v = .ref La ∧ H1 = H) I ⟨.ref La, hσ, rfl, rfl⟩) fun u s1 hu => ?_)
  obtain ⟨v, H1, I1, r1, ev, eH⟩ := hu
  subst ev eH
  obtain rfl : u = Value.ref La := r1
  refine Calls.spliced_nil ⟨I1.kIn, ?_⟩
  have ef : frs X.stack = X.env.locals :: frs X.outer := by
    rw [hst]
    unfold frs
    rw [List.filterMap_cons, hfr]
  have v2 : LvL X (grd s1.heap H1 X.stack) H1 rs ps := hpn _ _ (fun q hq2 => by
    obtain ⟨w1, w2, w3, w4, w5⟩ := I1.pin q (List.mem_append_left _ (hin q hq2))
    refine grd_in w1 w2 fun z => ?_
    rw [ef] at z
    exact (List.mem_cons.mp z).elim w3 w4) hcs2
  exact tries_call F1 Sc1 hb1 B1 ok1 ho hN0 hN1 hv0 hl1 h0 F2 Sc2 B2 hm2 hg2 hNg hva hG hfn hr L hbody I1 v2 hq hd2 hda hca hdk hck hds hcs
end
omit [DL.Me] in
def mTriesV (j : Nat) (ps : List (Addr × Addr)) (q : Str) (fl : List (Str × Str)) (e0 : Str) (fs : List DMX) : DM Dt := fun s => match s.sl[j]? with
  | some (some (.fns ps' q')) => if ps' = ps ∧ q' = q ∧ ps.length = fs.length then (triesD fl e0 (s.sl.map datOnly) fs s.bag).bind fun p => some (.lst p.1, { s with bag := p.2 }) else none
  | _ => none
theorem te_triesV {K : Frag} {T1 T2 T3 : Addr} {fl : List (Str × Str)} {e0 q : Str} {j : Nat} {ps : List (Addr × Addr)} {fs : List DMX} {N1 : List Str} (hT : ∀ C nm, ErrC K C nm → exmAny K (.ref C) [.ref T1, .ref T2, .ref T3] = some true) (hl : fs.length ≤ 1000) (h0 : ∀ v : V, (L2.start N1 [v])[0]? = some (some v)) (h1 : ∀ v : V, 1 < (L2.start N1 [v]).length) :
    TEok K (tTriesV K j q N1 (TTtry K fl T1 T2 T3 e0) (fs.map fun f E => tOfX K f E) ps) (mTriesV j ps q fl e0 fs) := by
  intro β P σ H G s d s' R e Q k
  unfold mTriesV at e
  split at e
  · rename_i ps' q' hsl
    split at e
    · rename_i cc
      obtain ⟨c1, c2, hps⟩ := cc
      have c1 := c1.symm
      have c2 := c2.symm
      subst c1
      subst c2
      obtain ⟨⟨ys, bgF⟩, e1, e⟩ := Option.bind_eq_some_iff.mp e
      cases e
      have sz : 100000 ≤ sizeLine := by rw [sizeLine_eq]; omega
      obtain ⟨L, hσ, gL, gC⟩ := R.fns j _ _ hsl
      refine ⟨L, hσ, fun p hp => R.gh _ _ (gC p hp), ?_⟩
      refine ⟨.ref L, h0 _, L, rfl, ⟨_, .inl (.inl (R.gh _ _ gL))⟩, fun D hD => ?_⟩
      have R3 := rel_hide R hD []
      have hn : ∀ (i : Nat) (x : Slo), (s.sl.map datOnly)[i]? = some (some x) → ∃ d, x = .dat d := fun i x z => by
        obtain ⟨_, d', e3, _⟩ := hid_get (vs := []) z
        exact ⟨d', e3⟩
      refine lc_list (K := K) (xs := ps.map fun p => V.ref p.1) (fun i HY => ∃ G3 bg acc ds rs, Ext G G3 ∧ Rel K β (upd (shut β H G) D (.lst acc)) σ HY G3 ⟨s.sl.map datOnly, bg⟩ ∧ IsL K β G3 ds acc ∧ acc.length = i ∧
        triesD fl e0 (s.sl.map datOnly) (fs.drop i) bg = some (rs, bgF) ∧ ds ++ rs = ys) ⟨G, s.bag, [], [], ys, Ext.refl _, R3, isl_nil.mpr rfl, rfl, e1, rfl⟩ ?_ ?_ ?_
      · rintro i HY hi ⟨G3, bg, acc, ds, rs, x3, R4, _⟩
        exact .inl (.inl (R4.gh _ _ (x3 _ _ gL)))
      · rintro i x HY hx ⟨G3, bg, acc, ds, rs, x3, R4, ia, la, e3, e4⟩
        rw [List.getElem?_map] at hx
        cases hp : ps[i]? with
        | none => rw [hp] at hx; cases hx
        | some p =>
          rw [hp] at hx
          cases hx
          have hi : i < fs.length := by rw [← hps]; exact (List.getElem?_eq_some_iff.mp hp).1
          have hf : fs[i]? = some fs[i] := List.getElem?_eq_getElem hi
          rw [List.drop_eq_getElem_cons hi] at e3
          unfold triesD at e3
          obtain ⟨⟨dy, s5⟩, e7, e3⟩ := Option.bind_eq_some_iff.mp e3
          obtain ⟨⟨zs, bz⟩, e8, e3⟩ := Option.bind_eq_some_iff.mp e3
          cases e3
          have at1 : ((wipe (L2.start N1 [V.ref L]) [1]).set 1 (some (V.ref p.1)))[1]? = some (some (V.ref p.1)) := List.getElem?_set_self (by rw [wipe_length]; exact h1 _)
          refine ⟨?_, ?_⟩
          · show ((wipe (L2.start N1 [V.ref L]) [1]).set 1 (some (V.ref p.1))).set 1 none = ((L2.start N1 [V.ref L]).set 1 none)
            show ((((L2.start N1 [V.ref L]).set 1 none)).set 1 (some (V.ref p.1))).set 1 none = ((L2.start N1 [V.ref L]).set 1 none)
            rw [List.set_set, List.set_set]
          · unfold tYes
            dsimp only
            rw [if_pos rfl]
            refine ⟨i, p, fun E => tOfX K fs[i] E, hp, by rw [List.getElem?_map, hf]; rfl, at1, R4.gh _ _ (x3 _ _ (gC p (List.mem_of_getElem? hp))), ?_⟩
            refine tt_try hT R4 e7 fun v H6 G6 x6 R6 i6 => ?_
            refine ⟨acc, (R6.pr D (.lst acc) upd_same).1, by rw [la]; exact Nat.lt_of_lt_of_le hi (Nat.le_trans hl (Nat.le_trans (by decide) sz)), G6, s5.bag, acc ++ [v], ds ++ [dy], zs, x3.trans x6, rel_acc R6 R4 x6 hn nx_lst, (IsL.mono x6 _ _ ia).snoc i6, by simp [la], e8, ?_⟩
            rw [← e4]
            simp
      · rintro HY ⟨G3, bg, acc, ds, rs, x3, R4, ia, la, e3, e4⟩
        rw [List.length_map, hps, List.drop_length] at e3
        cases e3
        rw [List.append_nil] at e4
        subst e4
        have qd := R4.pr D _ upd_same
        have xd : Ext G3 (upd G3 D (.lst acc)) := Ext.new qd.2
        exact k (.ref D) HY _ (x3.trans xd) (rel_done R hD R4 x3) (is_lst.mpr ⟨D, acc, rfl, upd_same, IsL.mono xd _ _ ia⟩)

    · cases e
  · cases e
theorem rel_fns {K : Frag} {β : Addr} {P : Hp} {σ : L2.St} {H G : Hp} {s : Sta} (R : Rel K β P σ H G s) {i : Nat} {L : Addr} {ps : List (Addr × Addr)} {q : Str} (gL : G L = some (.lst (ps.map fun p => V.ref p.1))) (gC : ∀ p ∈ ps, G p.2 = some (CodeO p.2 q)) :
    Rel K β P (σ.set i (some (.ref L))) H G { s with sl := s.sl.set i (some (.fns ps q)) } where
  len := by simp [R.len]
  gh := R.gh
  pr := R.pr
  pb := R.pb
  bag := R.bag
  dat := fun j e q => by
    rw [get_set] at q ⊢
    rw [R.len]
    by_cases c : i = j ∧ i < s.sl.length
    · rw [if_pos c] at q
      cases q
    · rw [if_neg c] at q ⊢
      exact R.dat j e q
  own := fun j e kk q => by
    rw [get_set] at q ⊢
    rw [R.len]
    by_cases c : i = j ∧ i < s.sl.length
    · rw [if_pos c] at q
      cases q
    · rw [if_neg c] at q ⊢
      exact R.own j e _ q
  dj := fun j k l m kl km p q1 q2 r1 r2 => by
    simp only [get_set] at q1 q2 r1 r2
    rw [R.len] at r1 r2
    by_cases c : i = j ∧ i < s.sl.length
    · rw [if_pos c] at q1; cases q1
    by_cases c' : i = k ∧ i < s.sl.length
    · rw [if_pos c'] at q2; cases q2
    rw [if_neg c] at q1 r1
    rw [if_neg c'] at q2 r2
    exact R.dj j k l m _ _ p q1 q2 r1 r2
  obj := fun j c ks l q => by
    rw [get_set] at q
    by_cases c : i = j ∧ i < s.sl.length
    · rw [if_pos c] at q
      cases q
    · rw [if_neg c] at q
      have z := R.obj j _ ks l q
      unfold ObjAt at z ⊢
      rw [get_set, R.len, if_neg c]
      exact z
  oj := fun j k c ks l c' ks' l' q1 q2 => by
    simp only [get_set] at q1 q2
    by_cases c : i = j ∧ i < s.sl.length
    · rw [if_pos c] at q1; cases q1
    by_cases c' : i = k ∧ i < s.sl.length
    · rw [if_pos c'] at q2; cases q2
    rw [if_neg c] at q1
    rw [if_neg c'] at q2
    exact R.oj j k _ _ _ _ _ _ q1 q2
  fns := fun j l q' e => by
    rw [get_set] at e
    by_cases c : i = j ∧ i < s.sl.length
    · rw [if_pos c] at e
      cases e
      exact ⟨L, by rw [get_set, R.len, if_pos c], gL, gC⟩
    · rw [if_neg c] at e
      exact (R.fns j l q' e).of (by rw [get_set, R.len, if_neg c])
  tabs := R.tabs
  pt := R.pt
  nt := R.nt
/-- a slot is forgotten -/
theorem rel_drop {K : Frag} {β : Addr} {P : Hp} {σ : L2.St} {H G : Hp} {s : Sta} (R : Rel K β P σ H G s) (i : Nat) : Rel K β P σ H G { s with sl := s.sl.set i none } where
  len := by simp [R.len]
  gh := R.gh
  pr := R.pr
  pb := R.pb
  bag := R.bag
  dat := fun j e q => by
    rw [get_set] at q
    by_cases c : i = j ∧ i < s.sl.length
    · rw [if_pos c] at q; cases q
    · rw [if_neg c] at q; exact R.dat j e q
  own := fun j e kk q => by
    rw [get_set] at q
    by_cases c : i = j ∧ i < s.sl.length
    · rw [if_pos c] at q; cases q
    · rw [if_neg c] at q; exact R.own j e _ q
  dj := fun j k l m kl km p q1 q2 r1 r2 => by
    simp only [get_set] at q1 q2
    by_cases c : i = j ∧ i < s.sl.length
    · rw [if_pos c] at q1; cases q1
    by_cases c' : i = k ∧ i < s.sl.length
    · rw [if_pos c'] at q2; cases q2
    rw [if_neg c] at q1
    rw [if_neg c'] at q2
    exact R.dj j k l m _ _ p q1 q2 r1 r2
  obj := fun j c ks l q => by
    rw [get_set] at q
    by_cases c : i = j ∧ i < s.sl.length
    · rw [if_pos c] at q; cases q
    · rw [if_neg c] at q; exact R.obj j _ ks l q
  oj := fun j k c ks l c' ks' l' q1 q2 => by
    simp only [get_set] at q1 q2
    by_cases c : i = j ∧ i < s.sl.length
    · rw [if_pos c] at q1; cases q1
    by_cases c' : i = k ∧ i < s.sl.length
    · rw [if_pos c'] at q2; cases q2
    rw [if_neg c] at q1
    rw [if_neg c'] at q2
    exact R.oj j k _ _ _ _ _ _ q1 q2
  fns := fun j l q' e => by
    rw [get_set] at e
    by_cases c : i = j ∧ i < s.sl.length
    · rw [if_pos c] at e; cases e
    · rw [if_neg c] at e; exact R.fns j l q' e
  tabs := R.tabs
  pt := R.pt
  nt := R.nt
theorem endOf_drop {K : Frag} {β : Addr} {P G : Hp} {D : Ends} {r : Res} {s : Sta} {i : Nat} (h : endOf K β P G D r { s with sl := s.sl.set i none }) : endOf K β P G D r s := by
  cases r with
  | nx => exact fun σ' H' G' x R => h σ' H' G' x (rel_drop R i)
  | bk => exact fun σ' H' G' x R => h σ' H' G' x (rel_drop R i)
  | ct => exact fun σ' H' G' x R => h σ' H' G' x (rel_drop R i)
  | rt d => exact fun v σ' H' G' x R => h v σ' H' G' x (rel_drop R i)
omit [DL.Me] in
def tsD (K : Frag) (f : DMs) : TS := fun D σ H => ∃ (β : Addr) (P G : Hp) (s : Sta) (r : Res) (s' : Sta), Rel K β P σ H G s ∧ f s = some (r, s') ∧ endOf K β P G D r s'
theorem pss_can {X : Cx} {st : List Stmt} {f : DMs} (h : DSs X st f) : PSs X st (tsD X.K f) := by
  obtain ⟨t, p, o⟩ := h
  refine ⟨fun pins s σ H D I k => p.run pins s σ H D I ?_⟩
  obtain ⟨β, P, G, a, r, a', R, e1, q⟩ := k
  exact o β P σ H G a r a' R e1 D q
omit [DL.Me] in
/-- x = [n lambdas], x in slot j, then what g says of the rest, whatever the lambdas; x is forgotten behind it -/
noncomputable def kLams (j n : Nat) (q : Str) (g : List (Addr × Addr) → DMs) : DMs := fun s => open Classical in
  if h : ∃ out : Res × Sta, ∀ ps : List (Addr × Addr), ps.length = n → ∃ sl', g ps ⟨s.sl.set j (some (.fns ps q)), s.bag⟩ = some (out.1, ⟨sl', out.2.bag⟩) ∧ out.2.sl = sl'.set j none then some (Classical.choose h) else none
theorem klams_of {j n : Nat} {q : Str} {g : List (Addr × Addr) → DMs} {s : Sta} {r : Res} {s' : Sta} (h : ∀ ps : List (Addr × Addr), ps.length = n → ∃ sl', g ps ⟨s.sl.set j (some (.fns ps q)), s.bag⟩ = some (r, ⟨sl', s'.bag⟩) ∧ s'.sl = sl'.set j none) : kLams j n q g s = some (r, s') := by
  have hx : ∃ out : Res × Sta, ∀ ps : List (Addr × Addr), ps.length = n → ∃ sl', g ps ⟨s.sl.set j (some (.fns ps q)), s.bag⟩ = some (out.1, ⟨sl', out.2.bag⟩) ∧ out.2.sl = sl'.set j none := ⟨(r, s'), h⟩
  unfold kLams
  rw [dif_pos hx]
  have h1 := Classical.choose_spec hx
  generalize Classical.choose hx = out at h1
  obtain ⟨a, b⟩ := out
  obtain ⟨sl1, e1, e2⟩ := h1 (List.replicate n (0, 0)) (by simp)
  obtain ⟨sl2, e3, e4⟩ := h (List.replicate n (0, 0)) (by simp)
  rw [e1] at e3
  have e5 := Option.some.inj e3
  have e6 : a = r := congrArg Prod.fst e5
  have e7 : (⟨sl1, b.bag⟩ : Sta) = ⟨sl2, s'.bag⟩ := congrArg Prod.snd e5
  have e8 : sl1 = sl2 := by injection e7
  have e9 : b.bag = s'.bag := by injection e7
  obtain ⟨bs, bb⟩ := b
  obtain ⟨ss, sb⟩ := s'
  have e2' : bs = sl1.set j none := e2
  have e4' : ss = sl2.set j none := e4
  have e9' : bb = sb := e9
  subst e6 e9' e8
  rw [e2', e4']
section
variable {X : Cx}
theorem dss_lamvar {x q : Str} {i k n : Nat} {es : List Expr} {fs : List DMX} {rs : List LamR} {rest : List Stmt} {g : List (Addr × Addr) → DMs} {px p0 pos : Pos} (M : Lams X k es fs rs) (hn : rs.length = n) (hqq : X.env.qual ++ "<lambda>" = q) (hlen : rs.length ≤ 1000) (hN : X.N.Nodup) (hy : X.N[i]? = some x) (hx : Loc X.env.scope x)
    (h2 : ∀ (ps : List (Addr × Addr)) (pn : List (Addr × Obj)), Lams X k es fs rs → ps.length = rs.length → LamPins X pn rs ps → DSs (pinX X pn) rest (g ps))
    (hst : X.stack = X.env :: X.outer := by rfl) (hfr : X.env.frame = some X.env.locals := by rfl) (hs : swapsWith (.List es p0) (some (.Name x px)) pos.line X.env = pure false := by rfl) (hf : X.fn x = true ∨ X.env.scope.names.lookup x = some .local := by first | exact .inl rfl | exact .inr rfl | assumption) :
    DSs X (.Assign [.Name x px] (.List es p0) pos :: rest) (kLams i n q g) := by
  subst hn hqq
  refine ⟨_, pss_lamvar (T := DL.Tabs.ts) (t2 := fun ps => tsD X.K (g ps)) M.makes hN hy hx (fun ps pn hl hp => pss_can (h2 ps pn M hl hp)) hst hfr hs hf, ?_⟩
  intro β P σ H G s r s' R e D kk
  refine ⟨fun y hy => ?_, Nat.le_trans hlen (by rw [sizeLine_eq]; omega), fun H1 eN tS ps hps hco L hL => ?_⟩
  · obtain ⟨⟨qs, t1, t2, t3⟩, ga, np⟩ := R.tabs y hy
    refine ⟨qs, t1, t2, fun pos cv hc => ?_⟩
    obtain ⟨c, c1, c2⟩ := t3 pos cv hc
    exact ⟨c, c1, R.gh c _ c2⟩
  · obtain ⟨G1, x1, R1, allC⟩ := rel_lam2 R eN fun y hy => tS y hy
    have R2 := R1.new (o := .lst (ps.map fun p => V.ref p.1)) hL
    have x2 := Ext.new (o := HO.lst (ps.map fun p => V.ref p.1)) (R1.free hL)
    have R3 := rel_fns (i := i) (q := X.env.qual ++ "<lambda>") R2 upd_same fun p hp => x2 _ _ (allC _ _ (hco p hp))
    unfold kLams at e
    split at e
    · rename_i hx
      have h1 := Classical.choose_spec hx
      generalize Classical.choose hx = out at h1 e
      cases e
      obtain ⟨sl', e1, e2⟩ := h1 ps hps
      refine ⟨β, P, _, _, r, _, R3, e1, endOf_drop (i := i) ?_⟩
      have e3 : ({ (⟨sl', s'.bag⟩ : Sta) with sl := sl'.set i none } : Sta) = s' := by
        obtain ⟨ss, sb⟩ := s'
        have e2' : ss = sl'.set i none := e2
        rw [e2']
      rw [e3]
      exact endOf.mono (x1.trans x2) kk
    · cases e
theorem lvl_pin {pn : List (Addr × Obj)} {g : Heap} {H : Hp} : ∀ {rs : List LamR} {ps : List (Addr × Addr)}, LvL X g H rs ps → LvL (pinX X pn) g H rs ps
  | [], [], _ => trivial
  | _ :: _, _ :: _, h => ⟨h.1, lvl_pin h.2⟩
  | [], _ :: _, h => h.elim
  | _ :: _, [], h => h.elim
theorem de_triesV {xv q : Str} {j : Nat} {ps : List (Addr × Addr)} {pn : List (Addr × Obj)} {fl : List (Str × Str)} {e0 x1 x2 asks ask a : Str} {T1 T2 T3 g1 g2 : Addr} {st1 st2 : Stmt} {fd1 fd2 : FuncData} {N1 Ng : List Str} {es : List Expr} {rs : List LamR} {fs : List DMX} {k : Nat} {scope1 : Scope} {own1 : List (Str × Nat)} {p p0 p1 p2 p3 p4 p5 p6 p7 pos : Pos}
    (h1 : nsIn X.K mainGlobals "TableError" = some (some (.ref T1))) (h2 : nsIn X.K mainGlobals "Missing" = some (some (.ref T2))) (h3 : nsIn X.K mainGlobals "NothingLeft" = some (some (.ref T3)))
    (F1 : Fun X.K x1 x1 st1 g1 fd1) (Sc1 : FnScope N1 [asks] (defScope st1)) (hb1 : defBody st1 = [.Return (some (.ListComp (.Call (.Name x2 p1) [.Name ask p2] [] p3) [⟨.Name ask p4, .Name asks p5, [], 0⟩] scope1 p6)) p7]) (B1 : L2.Binds X.K fd1 [asks] []) (hg1 : Gl X x1) (hm1 : X.mg x1 = some (.ref g1))
    (ok1 : BlkOk N1 (defScope st1) scope1 own1) (ho : own1.map (·.2) = [1]) (hN0 : N1[0]? = some asks) (hN1 : N1[1]? = some ask) (hv0 : Vis (defScope st1) asks) (hl1 : (relS scope1 (defScope st1)).names.lookup ask = some .local) (h0 : ∀ v : V, (L2.start N1 [v])[0]? = some (some v)) (hl : ∀ v : V, 1 < (L2.start N1 [v]).length)
    (F2 : Fun X.K x2 x2 st2 g2 fd2) (Sc2 : FnScope Ng [a] (defScope st2)) (B2 : L2.Binds X.K fd2 [a] []) (hm2 : X.mg x2 = some (.ref g2)) (hg2 : (relS scope1 (defScope st1)).names.lookup x2 = some .globalImplicit) (hNg : Ng[0]? = some a) (hva : Vis (defScope st2) a)
    (hG : ∀ B : Cx, B.prog = X.prog → B.w = X.w → B.K = X.K → B.mg = X.mg → Room (k + 2) B.A → ∀ cdv, GivesTo B Ng x2 (defScope st2) g2 cdv (defBody st2) a (X.env.qual ++ "<lambda>") (TTtry X.K fl T1 T2 T3 e0))
    (M : Lams X k es fs rs) (hfn : ∀ y, X.fn y = true) (hr : Room (k + 3) X.A) (hlen : fs.length ≤ 1000) (hpn : LamPins X pn rs ps) (hqq : X.env.qual ++ "<lambda>" = q) (hxv : X.N[j]? = some xv) (hvv : Vis X.env.scope xv) (hst : X.stack = X.env :: X.outer := by rfl) (hfr : X.env.frame = some X.env.locals := by rfl)
    (hd1 : (x1 == ("__debug__" : Str)) = false := by decide) (hd2 : (x2 == ("__debug__" : Str)) = false := by decide) (hda : (a == ("__debug__" : Str)) = false := by decide) (hca : (a == ("__classdict__" : Str)) = false := by decide)
    (hdk : (ask == ("__debug__" : Str)) = false := by decide) (hck : (ask == ("__classdict__" : Str)) = false := by decide) (hds : (asks == ("__debug__" : Str)) = false := by decide) (hcs : (asks == ("__classdict__" : Str)) = false := by decide)
    (hdv : (xv == ("__debug__" : Str)) = false := by decide) (hcv : (xv == ("__classdict__" : Str)) = false := by decide) :
    DE (pinX X pn) (.Call (.Name x1 p) [.Name xv p0] [] pos) (mTriesV j ps q fl e0 fs) := by
  subst hqq
  have pe : PE (pinX X pn) (.Call (.Name x1 p) [.Name xv p0] [] pos) (tTriesV X.K j (X.env.qual ++ "<lambda>") N1 (TTtry X.K fl T1 T2 T3 e0) (fs.map fun f E => tOfX X.K f E) ps) :=
    pe_triesV (X := pinX X pn) (p := p) (p0 := p0) (pos := pos) (rs := rs) (pn := pn) F1 Sc1 hb1 B1 hg1 hm1 ok1 ho hN0 hN1 hv0 hl1 h0 F2 Sc2 B2 hm2 hg2 hNg hva hG hfn hr M.own M.body (fun g H a b => lvl_pin (hpn g H a b)) (fun q hq => List.mem_append_left _ hq) hxv hvv hst hfr hd1 hd2 hda hca hdk hck hds hcs hdv hcv
  exact ⟨_, pe, te_triesV (fun C nm T => T.ca _ _ _ h1 h2 h3) hlen h0 hl⟩
end
end DX
set_option maxHeartbeats 4000000
namespace DE1
open PySem PySem.Spec PySem.Calls PyProof.Rows PySem.W L2 DL DX
variable [DL.Tabs] [DL.Me]
omit [DL.Tabs] [DL.Me] in
theorem exo_no_tbl {e C : Addr} {d : Option Addr} (ps : Array Value) : exo e C d ≠ .tbl ps := exo_tbl
omit [DL.Tabs] [DL.Me] in
theorem exd_no_tbl {e : Addr} {fs : List (Str × V)} (ps : Array Value) : exd e fs ≠ .tbl ps := fun z => by
  have z' : HO.ext _ = HO.tbl ps := z
  cases z'
theorem made_rel {K : Frag} {β : Addr} {P : Hp} {σ : L2.St} {H G : Hp} {s : Sta} {a dx C : Addr} {fs : List (Str × V)} (R : Rel K β P σ H G s) (na : H a = none) (nd : H dx = none) (ne : dx ≠ a) :
    Rel K β P σ (upd (upd H dx (exd dx fs)) a (exo a C (some dx))) (upd (upd G dx (exd dx fs)) a (exo a C (some dx))) s :=
  (R.new (o := exd dx fs) nd exd_no_tbl).new (o := exo a C (some dx)) (by rw [upd_ne ne.symm]; exact na) exo_no_tbl
end DE1
set_option maxHeartbeats 4000000
namespace DI
open PySem PySem.Spec PyProof.Rows L2 DL
variable [DL.Tabs] [DL.Me]
omit [DL.Me] in
def lookF (f : Str) : List Str → List Dt → Option Dt
  | k :: ks, d :: l => if (f == k) = true then some d else lookF f ks l
  | _, _ => none
theorem lookF_ok {K : PySem.W.Frag} {β : Addr} {G : Hp} {f : Str} : ∀ {ks : List Str} {l : List Dt} {vs : List V} {d : Dt}, IsL K β G l vs → lookF f ks l = some d → ∃ v, (ks.zip vs).lookup f = some v ∧ IsD K β G d v
  | [], _, _, _, _, e => by simp [lookF] at e
  | _ :: _, [], _, _, _, e => by simp [lookF] at e
  | k :: ks, d :: l, vs, d', h, e => by
    obtain ⟨v, r, rfl, h1, h2⟩ := isl_cons.mp h
    unfold lookF at e
    cases c : f == k with
    | true =>
      rw [c, if_pos rfl] at e
      cases e
      exact ⟨v, by simp only [List.zip_cons_cons, List.lookup, c], h1⟩
    | false =>
      rw [c, if_neg Bool.false_ne_true] at e
      obtain ⟨u, e1, e2⟩ := lookF_ok h2 e
      exact ⟨u, by simp only [List.zip_cons_cons, List.lookup, c]; exact e1, e2⟩
theorem lookF_no {f : Str} : ∀ {ks : List Str} {vs : List V}, f ∉ ks → (ks.zip vs).lookup f = none
  | [], _, _ => rfl
  | _ :: _, [], _ => rfl
  | k :: ks, v :: vs, h => by
    have h1 : f ≠ k := fun e => h (e ▸ List.mem_cons_self)
    have c : (f == k) = false := beq_eq_false_iff_ne.mpr h1
    simp only [List.zip_cons_cons, List.lookup, c]
    exact lookF_no fun m => h (List.mem_cons_of_mem _ m)
omit [DL.Me] in
/-- no class of these has the name -/
def NoF (K : PySem.W.Frag) (cs : List Str) (f : Str) : Prop := ∀ c ∈ cs, ∀ C, PySem.W.nsIn K mainGlobals c = some (some (.ref C)) → NoAttr K C f
section
variable {X : Cx} {o : Expr} {fo : DM Dt} {f : Str} {cs : List Str} {pos : Pos}
omit [DL.Me] in
def mFldO (i : Nat) (c : Str) (f : Str) : DM Dt := fun s => match s.sl[i]? with
  | some (some (.obj c' ks l)) => if c' = c then (lookF f ks l).bind fun d => some (d, s) else none
  | _ => none
theorem de_fldO {i : Nat} {c : Str} {x : Str} {p : Pos} (hn : NoF X.K [c] f) (hp : PE X (.Name x p) (tVar i)) (hb : attributeBase (.Name x p) f X.env (eval (.Name x p) X.env) = eval (.Name x p) X.env := by rfl) : DE X (.Attribute (.Name x p) f pos) (mFldO i c f) := by
  refine ⟨_, pe_fld hp hb, fun β P σ H G s d s' R e Q q => ?_⟩
  unfold mFldO at e
  split at e
  · rename_i c' ks l hs
    split at e
    · rename_i hc
      subst hc
      obtain ⟨y, e2, e⟩ := Option.bind_eq_some_iff.mp e
      cases e
      obtain ⟨a, C, dx, vs, h1, h0, h2, h3, h4, h5, h6⟩ := R.obj i _ ks l hs
      obtain ⟨u, e3, e4⟩ := lookF_ok h6 e2
      exact ⟨.ref a, h1, a, C, dx, _, u, rfl, h2, h0.2.cls, hn _ (List.mem_singleton.mpr rfl) C h0.2.at_, e3, q u H G (Ext.refl G) R e4⟩
    · cases e
  · cases e
theorem putF_new {f : Str} {v : V} : ∀ {fs : List (Str × V)}, fs.lookup f = none → putF f v fs = fs ++ [(f, v)]
  | [], _ => rfl
  | (g, x) :: r, h => by
    unfold putF
    by_cases c : g = f
    · subst c
      simp [List.lookup] at h
    · rw [if_neg c]
      have c2 : (f == g) = false := beq_eq_false_iff_ne.mpr fun z => c z.symm
      simp only [List.lookup, c2] at h
      rw [putF_new h]
      rfl
theorem zip_snoc {f : Str} {v : V} : ∀ {ks : List Str} {vs : List V}, ks.length = vs.length → (ks ++ [f]).zip (vs ++ [v]) = ks.zip vs ++ [(f, v)]
  | [], [], _ => rfl
  | k :: ks, x :: vs, h => by
    simp only [List.cons_append, List.zip_cons_cons]
    rw [zip_snoc (Nat.succ.inj h)]
/-- the relation behind a store -/
theorem rel_store {K : PySem.W.Frag} {β : Addr} {P : Hp} {σ : L2.St} {H G : Hp} {s : Sta} {i : Nat} {c : Str} {ks : List Str} {l : List Dt} {f : Str} {d : Dt} {v : V} (R : Rel K β P σ H G s) (hs : s.sl[i]? = some (some (.obj c ks l))) {p C dx : Addr} {vs : List V}
    (h1 : σ[i]? = some (some (.ref p))) (h0 : p = Me.me ∧ InsC K c C) (h2 : H p = some (.ins C dx (ks.zip vs))) (h3 : G p = none) (h4 : P p = none) (h5 : ks.length = l.length) (h6 : IsL K β G l vs) (hf : f ∉ ks) (hd : IsD K β G d v) :
    Rel K β P σ (upd H p (.ins C dx (putF f v (ks.zip vs)))) G { s with sl := s.sl.set i (some (.obj c (ks ++ [f]) (l ++ [d]))) } := by
  have hlen : i < s.sl.length := (List.getElem?_eq_some_iff.mp hs).1
  have ne : ∀ {q o}, H q = some o → (∀ C dx fs, o ≠ .ins C dx fs) → q ≠ p := fun {q o} e n z => by
    rw [z, h2] at e
    exact n _ _ _ (Option.some.inj e).symm
  exact {
    len := by simp [R.len]
    gh := fun a o e => by rw [upd_ne (ne_of_none e h3)]; exact R.gh a o e
    pr := fun a o e => by
      have n : a ≠ p := fun z => by rw [z, h4] at e; cases e
      rw [upd_ne n]; exact R.pr a o e
    pb := R.pb
    bag := by
      obtain ⟨us, b1, b2, b3⟩ := R.bag
      exact ⟨us, by rw [upd_ne (ne b1 fun _ _ _ z => by cases z)]; exact b1, b2, b3⟩
    dat := fun j e q => by
      rw [get_set] at q
      by_cases c' : i = j ∧ i < s.sl.length
      · rw [if_pos c'] at q; cases q
      · rw [if_neg c'] at q; exact R.dat j e q
    own := fun j m kk q => by
      rw [get_set] at q
      by_cases c' : i = j ∧ i < s.sl.length
      · rw [if_pos c'] at q; cases q
      · rw [if_neg c'] at q
        obtain ⟨p', us, g1, g2, g3⟩ := R.own j m _ q
        exact ⟨p', us, g1, by rw [upd_ne (ne g2 fun _ _ _ z => by cases kk <;> cases z)]; exact g2, g3⟩
    dj := fun j k l1 m kl km a q1 q2 r1 r2 => by
      simp only [get_set] at q1 q2
      by_cases c' : i = j ∧ i < s.sl.length
      · rw [if_pos c'] at q1; cases q1
      by_cases c2 : i = k ∧ i < s.sl.length
      · rw [if_pos c2] at q2; cases q2
      rw [if_neg c'] at q1
      rw [if_neg c2] at q2
      exact R.dj j k l1 m _ _ a q1 q2 r1 r2
    obj := fun j c1 ks1 l1 q => by
      rw [get_set] at q
      by_cases c' : i = j ∧ i < s.sl.length
      · rw [if_pos c'] at q
        cases q
        obtain ⟨rfl, _⟩ := c'
        have hl : ks.length = vs.length := by rw [h5, h6.len]
        refine ⟨p, C, dx, vs ++ [v], h1, h0, ?_, h3, h4, by simp [h5], h6.snoc hd⟩
        rw [upd_same, putF_new (lookF_no hf), zip_snoc hl]
      · rw [if_neg c'] at q
        exact absurd ⟨R.oj i j _ _ _ _ _ _ hs q, hlen⟩ c'
    oj := fun j k c1 ks1 l1 c2 ks2 l2 q1 q2 => by
      simp only [get_set] at q1 q2
      by_cases c' : i = j ∧ i < s.sl.length
      · by_cases c2 : i = k ∧ i < s.sl.length
        · exact c'.1.symm.trans c2.1
        · rw [if_neg c2] at q2
          exact absurd ⟨R.oj i k _ _ _ _ _ _ hs q2, hlen⟩ c2
      · rw [if_neg c'] at q1
        exact absurd ⟨R.oj i j _ _ _ _ _ _ hs q1, hlen⟩ c'
    fns := fun j l q e => by
      rw [get_set] at e
      by_cases c : i = j ∧ i < s.sl.length
      · rw [if_pos c] at e; cases e
      · rw [if_neg c] at e
        exact R.fns j l q e
    tabs := fun q hq => by
      obtain ⟨t, g, n⟩ := R.tabs q hq
      exact ⟨t.of (upd_ne (t.neI h2)) (Ext.refl G), g, n⟩
    pt := R.pt
    nt := R.nt }
end
end DI
set_option maxHeartbeats 4000000
namespace DI
open PySem PySem.Spec PyProof.Rows L2 DL
variable [DL.Tabs]
theorem rel_me {K : PySem.W.Frag} {β : Addr} {P : Hp} {H G : Hp} {bg : List Dt} (m1 m2 : Me) (R : @Rel _ m1 K β P [] H G ⟨[], bg⟩) : @Rel _ m2 K β P [] H G ⟨[], bg⟩ := by
  cases R with
  | mk len gh pr pb bag dat own dj obj oj fns tabs nt pt => exact @Rel.mk _ m2 K β P [] H G ⟨[], bg⟩ len gh pr pb bag dat own dj (fun i c ks l e => by simp at e) oj fns tabs nt pt
variable [DL.Me]
omit [DL.Me] in
abbrev FI := List Dt → List Dt → Option ((List Str × List Dt) × List Dt)
theorem rel_startI {K : PySem.W.Frag} {β : Addr} {P H G : Hp} {N : List Str} {ds bg : List Dt} {ws : List V} {c : Str} {p C dx : Addr} (me : p = Me.me) (i : IsL K β G ds ws) (R : Rel K β P [] H G ⟨[], bg⟩) (h0 : InsC K c C) (h1 : H p = some (.ins C dx [])) (h2 : G p = none) (h3 : P p = none) :
    Rel K β P (L2.start N (.ref p :: ws)) H G ⟨some (.obj c [] []) :: (ds.map (fun d => some (.dat d)) ++ List.replicate (N.length - 1 - ds.length) none), bg⟩ where
  len := by unfold L2.start; simp [i.len]; omega
  gh := R.gh
  pr := R.pr
  pb := R.pb
  bag := R.bag
  dat := fun j d e => by
    cases j with
    | zero => cases e
    | succ j =>
      rw [List.getElem?_cons_succ] at e
      obtain ⟨d', e1, e2⟩ := start_get e
      cases e2
      obtain ⟨v, g1, g2⟩ := i.get e1
      refine ⟨v, ?_, g2⟩
      unfold L2.start
      have hl : j < ws.length := (List.getElem?_eq_some_iff.mp g1).1
      rw [List.getElem?_append_left (by simpa using hl), List.getElem?_map, List.getElem?_cons_succ, g1]
      rfl
  own := fun j l kk e => by
    cases j with
    | zero => cases e
    | succ j =>
      rw [List.getElem?_cons_succ] at e
      obtain ⟨d', e1, e2⟩ := start_get e
      cases e2
  dj := fun j _ l _ kl km p e => by
    cases j with
    | zero => cases e
    | succ j =>
      rw [List.getElem?_cons_succ] at e
      obtain ⟨d', e1, e2⟩ := start_get e
      cases e2
  obj := fun j c' ks l e => by
    cases j with
    | zero =>
      cases e
      exact ⟨p, C, dx, [], rfl, ⟨me, h0⟩, h1, h2, h3, rfl, isl_nil.mpr rfl⟩
    | succ j =>
      rw [List.getElem?_cons_succ] at e
      obtain ⟨d', e1, e2⟩ := start_get e
      cases e2
  oj := fun j k c1 ks l c2 ks2 l2 e e' => by
    cases j with
    | zero =>
      cases k with
      | zero => rfl
      | succ k =>
        rw [List.getElem?_cons_succ] at e'
        obtain ⟨d', e1, e2⟩ := start_get e'
        cases e2
    | succ j =>
      rw [List.getElem?_cons_succ] at e
      obtain ⟨d', e1, e2⟩ := start_get e
      cases e2
  fns := fun j l q e => by
    cases j with
    | zero => cases e
    | succ j =>
      rw [List.getElem?_cons_succ] at e
      obtain ⟨d', e1, e2⟩ := start_get e
      cases e2
  tabs := R.tabs
  pt := R.pt
  nt := R.nt
/-- an object that nobody knows of -/
theorem rel_grow {K : PySem.W.Frag} {β : Addr} {P : Hp} {σ : L2.St} {H G : Hp} {s : Sta} {p : Addr} {o : HO} (R : Rel K β P σ H G s) (h : H p = none) : Rel K β P σ (upd H p o) G s where
  len := R.len
  gh := fun a u e => by rw [upd_ne (ne_of_none (R.gh a u e) h)]; exact R.gh a u e
  pr := fun a u e => by
    have h1 := R.pr a u e
    rw [upd_ne (ne_of_none h1.1 h)]; exact h1
  pb := R.pb
  bag := by
    obtain ⟨vs, h1, h2, h3⟩ := R.bag
    exact ⟨vs, by rw [upd_ne (ne_of_none h1 h)]; exact h1, h2, h3⟩
  dat := R.dat
  own := fun i l kk e => by
    obtain ⟨q, vs, h1, h2, h3⟩ := R.own i l _ e
    exact ⟨q, vs, h1, by rw [upd_ne (ne_of_none h2 h)]; exact h2, h3⟩
  dj := R.dj
  obj := fun i c ks l e => by
    obtain ⟨q, C, dx, vs, h1, h0, h2, h3⟩ := R.obj i c ks l e
    exact ⟨q, C, dx, vs, h1, h0, by rw [upd_ne (ne_of_none h2 h)]; exact h2, h3⟩
  oj := R.oj
  fns := R.fns
  tabs := fun q hq => by
    obtain ⟨t, g, n⟩ := R.tabs q hq
    exact ⟨t.of (upd_ne (t.ne h)) (Ext.refl G), g, n⟩
  pt := R.pt
  nt := R.nt
/-- what was made is data from now on: nobody else knew of it -/
theorem rel_frz {K : PySem.W.Frag} {β : Addr} {P : Hp} {σ : L2.St} {H G : Hp} {s : Sta} {p : Addr} {o : HO} (R : Rel K β P σ H G s) (h : H p = some o) (g : G p = none) (hP : P p = none) (hb : p ≠ β) (ho : ∀ (i : Nat) (l : List Dt) (kk : Option (List Key)), s.sl[i]? = some (some (Slo.mut kk l)) → σ[i]? ≠ some (some (V.ref p))) (hj : ∀ (i : Nat) (c : Str) (ks : List Str) (l : List Dt), s.sl[i]? = some (some (Slo.obj c ks l)) → σ[i]? ≠ some (some (V.ref p)))
    (ht : ∀ ps, o ≠ .tbl ps) : Rel K β P σ H (upd G p o) s where
  len := R.len
  gh := fun a u e => by
    by_cases c : a = p
    · subst c; rw [upd_same] at e; cases e; exact h
    · rw [upd_ne c] at e; exact R.gh a u e
  pr := fun a u e => by
    have n : a ≠ p := fun z => by rw [z, hP] at e; cases e
    rw [upd_ne n]; exact R.pr a u e
  pb := R.pb
  bag := by
    obtain ⟨vs, h1, h2, h3⟩ := R.bag
    exact ⟨vs, h1, by rw [upd_ne hb.symm]; exact h2, IsL.mono (Ext.new g) _ _ h3⟩
  dat := fun i d e => by
    obtain ⟨v, h1, h2⟩ := R.dat i d e
    exact ⟨v, h1, IsD.mono (Ext.new g) _ _ h2⟩
  own := fun i l kk e => by
    obtain ⟨q, vs, h1, h2, h3, h4, h5, h6⟩ := R.own i l _ e
    have n : q ≠ p := fun z => ho i l _ e (z ▸ h1)
    exact ⟨q, vs, h1, h2, by rw [upd_ne n]; exact h3, h4, h5, IsL.mono (Ext.new g) _ _ h6⟩
  dj := R.dj
  obj := fun i c ks l e => by
    obtain ⟨q, C, dx, vs, h1, h0, h2, h3, h4, h5, h6⟩ := R.obj i c ks l e
    have n : q ≠ p := fun z => hj i c ks l e (z ▸ h1)
    exact ⟨q, C, dx, vs, h1, h0, h2, by rw [upd_ne n]; exact h3, h4, h5, IsL.mono (Ext.new g) _ _ h6⟩
  oj := R.oj
  fns := fun i l q e => (R.fns i l q e).mono (Ext.new g)
  tabs := fun q hq => by
    obtain ⟨t, g1, n⟩ := R.tabs q hq
    have z : q.1 ≠ p := fun z => by
      obtain ⟨ps, k, _⟩ := t
      rw [z, h] at k
      exact ht ps (Option.some.inj k)
    exact ⟨t.of rfl (Ext.new g), by rw [upd_ne z]; exact g1, n⟩
  pt := R.pt
  nt := fun a ps e => by
    by_cases c : a = p
    · subst c; rw [upd_same] at e; exact ht ps (Option.some.inj e)
    · rw [upd_ne c] at e; exact R.nt a ps e
end DI
set_option maxHeartbeats 4000000
namespace DI
open PySem PySem.Spec PyProof.Rows L2 DL
variable [DL.Tabs] [DL.Me]
theorem insC_eq {K : PySem.W.Frag} {c : Str} {C C' : Addr} (h : InsC K c C) (h' : InsC K c C') : C' = C := by
  have := h'.at_.symm.trans h.at_
  cases this
  rfl
end DI
set_option maxHeartbeats 4000000
namespace TM
open PySem PySem.Spec PyProof.Rows L2
theorem tuple_mul1 (l : Addr) (items : Array Value) (n : Nat) (dd : Option Addr) (sl : Array (Option Value)) (u : Tok) :
    Meets (Builtin.«tuple.__mul__» ⟨[.ref l, .int 1 u], []⟩) (fun _ R s => s.heap.get? l = some { cls := .type "tuple", dict := dd, data := .seq items n, slots := sl } ∧ R (.ok (.ret (Value.ref l))) s) :=
  .of_wp fun prog w A R s h => by
    obtain ⟨hp, g, d, tk, os⟩ := s
    obtain ⟨hl, h⟩ := h
    have f1 := AutoSeq1.idx_int
    wp_walk using wpAny_loadPart' hl
    repeat (first
      | (refine wpAny_ite_false (by decide) ?_; wp_walk using wpAny_loadPart' hl)
      | (refine wpAny_ite_true (by simp) ?_; wp_walk using wpAny_loadPart' hl))
    exact ⟨_, rfl, h⟩
theorem tuple_mul0 (l : Addr) (i : Value) (items : Array Value) (n : Nat) (dd : Option Addr) (sl : Array (Option Value)) (u : Tok) (hne : items.isEmpty = false) :
    Meets (Builtin.«tuple.__mul__» ⟨[.ref l, .int 0 u], []⟩) (fun _ R s => s.heap.get? l = some { cls := .type "tuple", dict := dd, data := .seq items n, slots := sl } ∧
      R (.ok (.ret (Value.ref s.heap.objs.size))) { s with heap := s.heap.push { cls := Value.type "tuple", data := Data.seq #[] }, toks := s.toks }) :=
  .of_wp fun prog w A R s h => by
    obtain ⟨hp, g, d, tk, os⟩ := s
    obtain ⟨hl, h⟩ := h
    have f1 := AutoSeq1.idx_int
    wp_walk using wpAny_loadPart' hl
    repeat (first
      | (refine wpAny_ite_false (by decide) ?_; wp_walk using wpAny_loadPart' hl)
      | (refine wpAny_ite_false (by rw [hne]; decide) ?_; wp_walk using wpAny_loadPart' hl)
      | (refine wpAny_ite_true (by simp) ?_; wp_walk using wpAny_loadPart' hl))
    exact ⟨_, rfl, h⟩
end TM
namespace TM
open PySem PySem.Spec PyProof.Rows L2
def rRep01 (K : PySem.W.Frag) : R2 := fun x y H Q => ∃ l k xs, x = .ref l ∧ y = .int k ∧ SqT K H l xs ∧ xs ≠ [] ∧ ((k = 1 ∧ Q (.ref l) H) ∨ (k = 0 ∧ ∀ p, H p = none → Q (.ref p) (upd H p (.tup []))))
theorem op_rep01 {X : Cx} : OpR X (binaryOp .Mult) (rRep01 X.K) := by
  intro pins s σ H x y v u Q I rx ry h
  obtain ⟨l, k, xs, rfl, rfl, hT, hne, q⟩ := h
  cases rx
  obtain ⟨t, rfl⟩ := ry
  obtain ⟨its, r, ⟨⟨cls, dd, data, sl⟩, ho, hc, n, hd⟩, hs⟩ := I.tuple hT
  simp only at hc hd
  subst hc hd
  have hi : its.toArray.isEmpty = false := by
    cases its with
    | nil => cases r; exact absurd rfl hne
    | cons a b => rfl
  refine wpAny_binaryOp_repeat_ref (T := "tuple") (U := "int") (by decide) ⟨_, ho, rfl⟩ (fun s' => typeIs_int s' k t) noFill_tuple_mul F.fills_int_mul F.slot_int_rmul repeat_tuple F.slot_int_index.lookup
    (call_meets F.slot_int_rmul (typeIs_int s k t) F.entry_int_rmul (F.args_int_rmul_2 _ _) (int_rmul_tuple k t l its.toArray n dd sl) ⟨ho, rfl, ⟨_, ho, rfl⟩, ?_⟩)
  rcases q with ⟨rfl, q⟩ | ⟨rfl, q⟩
  · exact call_meets F.slot_tuple_mul ⟨_, ho, rfl⟩ F.entry_tuple_mul (F.args_tuple_mul_2 _ _) (tuple_mul1 l its.toArray n dd sl t) ⟨ho, .ref l, H, I, rfl, q⟩
  · refine call_meets F.slot_tuple_mul ⟨_, ho, rfl⟩ F.entry_tuple_mul (F.args_tuple_mul_2 _ _) (tuple_mul0 l .none its.toArray n dd sl t hi) ⟨ho, ?_⟩
    exact ⟨.ref s.heap.objs.size, _, I.laid (t' := s.toks) (o := .tup []) (fun b ob q => Heap.get?_push_of_some _ q) (Nat.le_refl _) ⟨Nat.zero_le _, [], .nil, IsTup.new _ _⟩, rfl, q _ (I.hok.fresh (Nat.le_refl _))⟩
end TM
set_option maxHeartbeats 4000000
namespace STI
open PySem PySem.Spec PyProof.Rows SrtO
/-- row against row, place by place -/
def ltL : List Int → List Int → Bool
  | [], [] => false
  | [], _ :: _ => true
  | _ :: _, [] => false
  | x :: xs, y :: ys => if x = y then ltL xs ys else decide (x < y)
theorem ltL_asym : ∀ a b, ltL a b = true → ltL b a = false
  | [], [], h => by cases h
  | [], _ :: _, _ => rfl
  | _ :: _, [], h => by cases h
  | x :: xs, y :: ys, h => by
    unfold ltL at h ⊢
    by_cases e : x = y
    · rw [if_pos e] at h
      rw [if_pos e.symm]
      exact ltL_asym xs ys h
    · rw [if_neg e] at h
      rw [if_neg (Ne.symm e)]
      have := of_decide_eq_true h
      exact decide_eq_false (by omega)
theorem ltL_tr : ∀ a b c, ltL b a = false → ltL c b = false → ltL c a = false
  | [], b, c, h1, h2 => by
    cases c with
    | cons z zs => rfl
    | nil =>
      cases b with
      | nil => rfl
      | cons y ys => cases h2
  | x :: xs, [], c, h1, h2 => by cases h1
  | x :: xs, y :: ys, [], h1, h2 => by cases h2
  | x :: xs, y :: ys, z :: zs, h1, h2 => by
    unfold ltL at h1 h2 ⊢
    by_cases e1 : y = x
    · rw [if_pos e1] at h1
      by_cases e2 : z = y
      · rw [if_pos e2] at h2
        rw [if_pos (e2.trans e1)]
        exact ltL_tr xs ys zs h1 h2
      · rw [if_neg e2] at h2
        rw [if_neg (by omega)]
        have := of_decide_eq_false h2
        exact decide_eq_false (by omega)
    · rw [if_neg e1] at h1
      have a1 := of_decide_eq_false h1
      by_cases e2 : z = y
      · rw [if_neg (by omega)]
        exact decide_eq_false (by omega)
      · rw [if_neg e2] at h2
        have a2 := of_decide_eq_false h2
        rw [if_neg (by omega)]
        exact decide_eq_false (by omega)
theorem swo_ltL {α : Type} (k : α → List Int) : Swo fun v u => ltL (k v) (k u) := ⟨fun x y h => ltL_asym _ _ h, fun x y z h1 h2 => ltL_tr _ _ _ h1 h2⟩
/-- a tuple of these ints -/
def IsTI (h : Heap) (v : Value) (ns : List Int) : Prop := ∃ a o its n, v = .ref a ∧ h.get? a = some o ∧ o.cls = .type "tuple" ∧ o.data = .seq its n ∧ IntsAre its.toList ns
theorem IsTI.keeps {h h' : Heap} {v : Value} {ns : List Int} (p : IsTI h v ns) (k : ∀ b o, h.get? b = some o → o.cls = .type "tuple" → h'.get? b = some o) : IsTI h' v ns := by
  obtain ⟨a, o, its, n, e, ho, hc, hd, hi⟩ := p
  exact ⟨a, o, its, n, e, k _ _ ho hc, hc, hd, hi⟩
section
variable {prog : Program} {w : World} {A : Around} {E : Value → Shared → Prop} {s : Shared}
theorem kat_ints {Q : Bool → Shared → Prop} : ∀ {ns ms : List Int} {xs ys : List Value} (i : Nat), IntsAre xs ns → IntsAre ys ms → Q (ltL ns ms) s → PySem.W.KatLex prog w A true (decide (ns.length < ms.length)) Q (xs.zip ys) i s
  | _, _, _, _, i, .nil, .nil, h => PySem.W.kat_nil h
  | _, _, _, _, i, .nil, .cons m u r', h => PySem.W.kat_nil (by
      rw [show decide (([] : List Int).length < (m :: _).length) = true from decide_eq_true (Nat.succ_pos _)]
      exact h)
  | _, _, _, _, i, .cons n t r, .nil, h => PySem.W.kat_nil h
  | _, _, _, _, i, @IntsAre.cons n t vs ns r, @IntsAre.cons m u vs' ms r', h => by
    refine PySem.W.kat_cons (SeqAt.EqAt.int_int n t m u prog w _ _ ?_)
    refine PySem.W.kat_go (fun e1 => ?_) (fun e1 => ?_)
    · have ex : n = m := by simpa using e1
      refine PySem.W.kat_yes ?_
      have e2 : ltL (n :: ns) (m :: ms) = ltL ns ms := by show (if n = m then _ else _) = _; rw [if_pos ex]
      rw [e2] at h
      have e3 : decide ((n :: ns).length < (m :: ms).length) = decide (ns.length < ms.length) := by simp
      rw [e3]
      exact kat_ints (i + 1) r r' h
    · have ex : ¬ n = m := by simpa using e1
      have e2 : ltL (n :: ns) (m :: ms) = decide (n < m) := by show (if n = m then _ else _) = _; rw [if_neg ex]
      rw [e2] at h
      cases i with
      | zero => exact PySem.W.kat_no (oneLt_int h)
      | succ i => exact PySem.W.kat_no (PySem.W.kat_one _ _ (PyProof.Rows.lt_int h))
theorem ti_cmp {vs : List Value} {k : Value → List Int} (hp : ∀ v ∈ vs, IsTI s.heap v (k v)) : Cmp prog w A s (tuples' true) (fun p => p.1 ∈ vs) (lt2 fun v u => ltL (k v) (k u)) := by
  intro p q hm hm'
  obtain ⟨a, o, its, n, e, ho, hc, hd, hi⟩ := hp _ hm
  obtain ⟨a', o', its', n', e', ho', hc', hd', hi'⟩ := hp _ hm'
  show wpAny (model prog w) A (keyLt' (tuples' true) p.1 q.1) (fun r s' => s' = s ∧ r = ltL (k p.1) (k q.1)) (fun _ _ => False) s
  generalize k p.1 = x at hi ⊢
  generalize k q.1 = y at hi' ⊢
  rw [e, e']
  refine PySem.W.kat_lt ho hd ho' hd' ?_
  have e1 : decide (its.size < its'.size) = decide (x.length < y.length) := by
    rw [← Array.length_toList, ← Array.length_toList, hi.length, hi'.length]
  rw [e1]
  exact kat_ints 0 hi hi' ⟨rfl, rfl⟩
theorem firsts {h : Heap} {k : Value → List Int} : ∀ {vs : List Value}, (∀ v ∈ vs, IsTI h v (k v) ∧ k v ≠ []) → ∃ fs, PySem.W.KatTups h vs fs ∧ fs.length = vs.length ∧ ∀ f ∈ fs, ∃ i t, f = Value.int i t
  | [], _ => ⟨[], trivial, rfl, fun _ h => nomatch h⟩
  | v :: vs, hp => by
    obtain ⟨fs, h1, h2, h3⟩ := firsts (vs := vs) fun u hu => hp u (List.mem_cons_of_mem _ hu)
    obtain ⟨⟨a, o, its, n, e, ho, hc, hd, hi⟩, hk⟩ := hp v (List.mem_cons_self ..)
    generalize k v = ns at hi hk
    cases hl : its.toList with
    | nil =>
      rw [hl] at hi
      cases hi
      exact absurd rfl hk
    | cons f r =>
      rw [hl] at hi
      cases hi with
      | cons i t r' =>
        refine ⟨.int i t :: fs, ⟨⟨a, o, its, n, e, ho, hc, hd, ?_⟩, h1⟩, by simp [h2], fun g hg => ?_⟩
        · rw [← Array.getElem?_toList, hl]
          rfl
        · rcases List.mem_cons.mp hg with rfl | hg
          · exact ⟨i, t, rfl⟩
          · exact h3 g hg
theorem ti_sortable {a : Addr} {vs : List Value} {k : Value → List Int} (h0 : 0 < vs.length) (hp : ∀ v ∈ vs, IsTI s.heap v (k v) ∧ k v ≠ []) (ha : ∀ o, s.heap.get? a = some o → o.cls ≠ .type "tuple") : SortableO prog w A s a vs fun v u => ltL (k v) (k u) := by
  intro h' keep
  have hp' : ∀ v ∈ vs, IsTI h' v (k v) ∧ k v ≠ [] := fun v hm => ⟨(hp v hm).1.keeps fun b o e c => keep b o (fun z => by subst z; exact ha o e c) e, (hp v hm).2⟩
  obtain ⟨fs, h1, h2, h3⟩ := firsts hp'
  refine ⟨tuples' true, fun Q E hq => ?_, ti_cmp (s := { s with heap := h' }) fun v hm => (hp' v hm).1⟩
  refine PySem.W.kat_kind (T := .type "int") h1 (by omega) (fun f hm => ?_) (by rfl) ?_
  · obtain ⟨x, t, rfl⟩ := h3 f hm
    exact PySem.W.Looks.now
  · rw [show (Value.type "int" != Value.type "tuple") = true by first | decide +kernel | rfl | decide]
    exact hq
end
/-- sorted(xs), xs a list of tuples of ints, none empty: the list that is sorted, equal ones in their order -/
def rSortedTI (K : PySem.W.Frag) : List L2.V → L2.Hp → L2.VK → Prop := fun vs H Q => ∃ (a : Addr) (xs : List L2.V) (k : L2.V → List Int), vs = [L2.V.ref a] ∧ L2.SqL K H a xs ∧ (∀ x ∈ xs, (∃ t, x = L2.V.ref t ∧ L2.SqT K H t ((k x).map L2.V.int)) ∧ k x ≠ []) ∧
  ∀ ys p, Srtd (fun u v => ltL (k u) (k v)) ys → Stb (fun u v => ltL (k u) (k v)) ys xs → H p = none → Q (.ref p) (L2.upd H p (.lst ys))
open L2 in
theorem cr_sortedTI {X : Cx} : CallR X (.builtin "sorted") (rSortedTI X.K) := by
  intro pins s σ H vs us Q I r h
  obtain ⟨a, xs, k, rfl, hs, hx, q⟩ := h
  obtain ⟨its, rv, hl, hz⟩ := I.list hs
  obtain ⟨u, rfl, ru⟩ := vals1 r
  obtain rfl : u = Value.ref a := ru
  obtain ⟨e1, e2⟩ := refs_back rv fun x m => by
    obtain ⟨⟨t, e, _⟩, _⟩ := hx x m
    exact ⟨t, e⟩
  have ti : ∀ v ∈ its, IsTI s.heap v (k (backV v)) ∧ k (backV v) ≠ [] := fun v hv => by
    obtain ⟨t, rfl⟩ := e2 v hv
    have hm : V.ref t ∈ xs := by rw [e1]; exact List.mem_map.mpr ⟨_, hv, rfl⟩
    obtain ⟨⟨t', e, ht⟩, hk⟩ := hx _ hm
    cases e
    obtain ⟨its2, r2, ⟨o, ho, hc, n, hd⟩, _⟩ := I.tuple ht
    have hi : IntsAre its2.toArray.toList (k (V.ref t)) := by simpa using r2.ints
    exact ⟨⟨t, o, _, n, rfl, ho, hc, hd, hi⟩, hk⟩
  refine sorted_ord (swo_ltL fun u => k (backV u)) hl.isList (by rw [← rv.length]; exact hz) (fun h2 h₁ a' ha kk => ?_) fun out h1 h2 => ?_
  · refine ti_sortable (s := { s with heap := h₁ }) (by omega) (fun v hm => ⟨(ti v hm).1.keeps fun b o e _ => (kk b o e).2, (ti v hm).2⟩) fun o e => ?_
    have e' : some o = some (seqObj "list" its.toArray 0) := e.symm.trans ha
    cases e'
    intro c
    exact absurd (Value.type.inj c) (by decide)
  · have h3 : ∀ u ∈ out, ∃ a, u = Value.ref a := fun u hu => e2 u (h2.perm.mem_iff.mp hu)
    have hb : Stb (fun u v => ltL (k u) (k v)) (out.map backV) xs := by
      rw [e1]
      exact Stb.map (swo_ltL k) backV h2
    obtain ⟨n, hn⟩ := sortedAll_at s.heap its out.toArray
    refine ⟨.ref _, upd H (s.heap.objs.size + 1) (.lst (out.map backV)), I.laid (t' := s.toks) (fun _ _ => sortedAll_old) (Nat.le_succ _) ⟨?_, out, n, vals_back h3, hn⟩, rfl, q _ _ (srtd_map h1) hb (I.hok.fresh (Nat.le_succ _))⟩
    rw [hb.len]
    exact hz
end STI
set_option maxHeartbeats 4000000
namespace STI
open PySem PySem.Spec PyProof.Rows SrtO
section
variable {α β : Type}
def insS (lt : α → α → Bool) (x : α) : List α → List α
  | [] => [x]
  | y :: r => if lt y x = true then y :: insS lt x r else x :: y :: r
def sortS (lt : α → α → Bool) : List α → List α
  | [] => []
  | x :: r => insS lt x (sortS lt r)
theorem ins_map (lt : β → β → Bool) (f : α → β) (x : α) : ∀ l : List α, insS lt (f x) (l.map f) = (insS (fun a b => lt (f a) (f b)) x l).map f
  | [] => rfl
  | y :: r => by
    show (if lt (f y) (f x) = true then _ else _) = (if lt (f y) (f x) = true then _ else _ : List α).map f
    by_cases c : lt (f y) (f x) = true
    · rw [if_pos c, if_pos c, ins_map lt f x r]
      rfl
    · rw [if_neg c, if_neg c]
      rfl
theorem sort_map (lt : β → β → Bool) (f : α → β) : ∀ l : List α, sortS lt (l.map f) = (sortS (fun a b => lt (f a) (f b)) l).map f
  | [] => rfl
  | x :: r => by
    show insS lt (f x) (sortS lt (r.map f)) = _
    rw [sort_map lt f r, ins_map]
    rfl
theorem ins_perm (lt : α → α → Bool) (x : α) : ∀ l : List α, (insS lt x l).Perm (x :: l)
  | [] => List.Perm.refl _
  | y :: r => by
    show (if lt y x = true then y :: insS lt x r else x :: y :: r).Perm _
    by_cases c : lt y x = true
    · rw [if_pos c]
      exact ((ins_perm lt x r).cons y).trans (List.Perm.swap x y r)
    · rw [if_neg c]
theorem sort_perm (lt : α → α → Bool) : ∀ l : List α, (sortS lt l).Perm l
  | [] => List.Perm.refl _
  | x :: r => (ins_perm lt x _).trans ((sort_perm lt r).cons x)
theorem ins_srtd {lt : α → α → Bool} (O : Swo lt) (x : α) : ∀ l : List α, Srtd lt l → Srtd lt (insS lt x l)
  | [], _ => List.pairwise_singleton _ _
  | y :: r, h => by
    obtain ⟨h1, h2⟩ := List.pairwise_cons.mp h
    show Srtd lt (if lt y x = true then y :: insS lt x r else x :: y :: r)
    by_cases c : lt y x = true
    · rw [if_pos c]
      refine List.pairwise_cons.mpr ⟨fun z hz => ?_, ins_srtd O x r h2⟩
      rcases List.mem_cons.mp ((ins_perm lt x r).mem_iff.mp hz) with rfl | hz
      · exact O.asym _ _ c
      · exact h1 z hz
    · rw [if_neg c]
      have c' : lt y x = false := by cases e : lt y x; rfl; exact absurd e c
      refine List.pairwise_cons.mpr ⟨fun z hz => ?_, h⟩
      rcases List.mem_cons.mp hz with rfl | hz
      · exact c'
      · exact O.tr x y z c' (h1 z hz)
theorem sort_srtd {lt : α → α → Bool} (O : Swo lt) : ∀ l : List α, Srtd lt (sortS lt l)
  | [] => List.Pairwise.nil
  | x :: r => ins_srtd O x _ (sort_srtd O r)
theorem ins_cls {lt : α → α → Bool} (O : Swo lt) (x z : α) : ∀ l : List α, (insS lt x l).filter (eqv lt z) = (x :: l).filter (eqv lt z)
  | [] => rfl
  | y :: r => by
    show (if lt y x = true then y :: insS lt x r else x :: y :: r).filter _ = _
    by_cases c : lt y x = true
    · rw [if_pos c, List.filter_cons, ins_cls O x z r, List.filter_cons, List.filter_cons, List.filter_cons]
      by_cases a : eqv lt z y = true
      · by_cases b : eqv lt z x = true
        · exfalso
          obtain ⟨a1, a2⟩ := eqv_iff.mp a
          obtain ⟨b1, b2⟩ := eqv_iff.mp b
          have := O.tr x z y b1 a2
          rw [c] at this
          cases this
        · simp only [if_pos a, if_neg b]
      · simp only [if_neg a]
    · rw [if_neg c]
theorem sort_stb {lt : α → α → Bool} (O : Swo lt) : ∀ l : List α, Stb lt (sortS lt l) l
  | [] => Stb.refl _
  | x :: r => by
    refine ⟨sort_perm lt _, fun z => ?_⟩
    show (insS lt x (sortS lt r)).filter _ = _
    rw [ins_cls O x z, List.filter_cons, List.filter_cons, (sort_stb O r).cls z]
end
theorem ia_det : ∀ {vs : List Value} {ns ms : List Int}, IntsAre vs ns → IntsAre vs ms → ns = ms
  | _, _, _, .nil, .nil => rfl
  | _, _, _, .cons n t r, .cons _ _ r' => by rw [ia_det r r']
theorem IsTI.det {h : Heap} {v : Value} {ns ms : List Int} (x : IsTI h v ns) (y : IsTI h v ms) : ns = ms := by
  obtain ⟨a, o, its, n, rfl, ho, hc, hd, hi⟩ := x
  obtain ⟨a', o', its', n', e, ho', hc', hd', hi'⟩ := y
  cases e
  rw [ho] at ho'
  cases ho'
  rw [hd] at hd'
  cases hd'
  exact ia_det hi hi'
def valOf : L2.V → Value
  | .ref a => .ref a
  | _ => .none
noncomputable def kH (h : Heap) (x : L2.V) : List Int := open Classical in if e : ∃ ns, IsTI h (valOf x) ns then Classical.choose e else []
theorem kH_eq {h : Heap} {x : L2.V} {ns : List Int} (e : IsTI h (valOf x) ns) : kH h x = ns := by
  have ee : ∃ ns, IsTI h (valOf x) ns := ⟨ns, e⟩
  unfold kH
  rw [dif_pos ee]
  exact (Classical.choose_spec ee).det e
/-- sorted(xs), each row with its ints -/
def rSortedL (K : PySem.W.Frag) : List L2.V → L2.Hp → L2.VK → Prop := fun vs H Q => ∃ (a : Addr) (L : List (L2.V × List Int)), vs = [L2.V.ref a] ∧ L2.SqL K H a (L.map (·.1)) ∧ (∀ p ∈ L, (∃ t, p.1 = L2.V.ref t ∧ L2.SqT K H t (p.2.map L2.V.int)) ∧ p.2 ≠ []) ∧
  ∀ p, H p = none → Q (.ref p) (L2.upd H p (.lst ((sortS (fun u v => ltL u.2 v.2) L).map (·.1))))
open L2 in
theorem cr_sortedL {X : Cx} : CallR X (.builtin "sorted") (rSortedL X.K) := by
  intro pins s σ H vs us Q I r h
  obtain ⟨a, L, rfl, hs, hx, q⟩ := h
  have key : ∀ p ∈ L, kH s.heap p.1 = p.2 := fun p hp => by
    obtain ⟨⟨t, e, ht⟩, hk⟩ := hx p hp
    obtain ⟨its2, r2, ⟨o, ho, hc, n, hd⟩, _⟩ := I.tuple ht
    have hi : IntsAre its2.toArray.toList p.2 := by simpa using r2.ints
    refine kH_eq ?_
    rw [e]
    exact ⟨t, o, _, n, rfl, ho, hc, hd, hi⟩
  let k : V → List Int := kH s.heap
  have eL : L = (L.map (·.1)).map fun x => (x, k x) := by
    rw [List.map_map]
    conv => lhs; rw [← List.map_id L]
    refine List.map_congr_left fun p hp => ?_
    show p = (p.1, k p.1)
    rw [show k p.1 = p.2 from key p hp]
  refine cr_sortedTI pins s σ H [.ref a] us Q I r ⟨a, L.map (·.1), k, rfl, hs, fun x hxm => ?_, fun ys p h1 h2 hp => ?_⟩
  · obtain ⟨p, hp, rfl⟩ := List.mem_map.mp hxm
    rw [show k p.1 = p.2 from key p hp]
    exact hx p hp
  · have O := swo_ltL k
    have e1 : ys = sortS (fun u v => ltL (k u) (k v)) (L.map (·.1)) := stb_uniq O h1 (sort_srtd O _) (h2.trans ⟨(sort_perm _ _).symm, fun z => ((sort_stb O _).cls z).symm⟩)
    have e2 : (sortS (fun u v => ltL u.2 v.2) L).map (·.1) = sortS (fun u v => ltL (k u) (k v)) (L.map (·.1)) := by
      conv => lhs; rw [eL]
      rw [sort_map, List.map_map]
      show List.map (fun x => x) _ = _
      rw [List.map_id']
    rw [e1, ← e2]
    exact q p hp
end STI
set_option maxHeartbeats 4000000
namespace DT
open PySem PySem.Spec PyProof.Rows L2 DL SrtO STI
variable [DL.Tabs] [DL.Me]
omit [DL.Me] in
def gTMul : Dt → Dt → Option Dt
  | .tup l, .int k => if l ≠ [] ∧ 0 ≤ k ∧ k ≤ 1000 ∧ l.length ≤ 1000 then some (.tup (List.replicate k.toNat l).flatten) else none
  | _, _ => none
theorem r2_tmul {K : PySem.W.Frag} : R2ok K (fun x y H Q => rRepT K x y H Q ∨ TM.rRep01 K x y H Q) gTMul := by
  intro β P σ H G s x y dx dy d R ix iy h Q q
  unfold gTMul at h
  split at h
  · rename_i l k
    split at h
    · rename_i c
      cases h
      obtain ⟨c1, c2, c3, c4⟩ := c
      obtain ⟨p, vs, rfl, h1, h2⟩ := is_tup.mp ix
      have hv : vs ≠ [] := fun e => c1 (by
        have := h2.len
        rw [e] at this
        exact List.eq_nil_of_length_eq_zero this.symm)
      have new : ∀ (n : Nat) (a : Addr), H a = none → Q (.ref a) (upd H a (.tup (List.replicate n vs).flatten)) ∨ n ≠ k.toNat := fun n a ha => by
        by_cases e : n = k.toNat
        · subst e
          exact .inl (q _ _ _ (Ext.new (R.free ha)) (R.new ha) (is_tup.mpr ⟨a, _, rfl, .inl (.inl upd_same), IsL.mono (Ext.new (R.free ha)) _ _ (DX.isl_rep h2 _)⟩))
        · exact .inr e
      by_cases e2 : 2 ≤ k
      · refine .inl ⟨p, k, vs, rfl, is_int.mp iy, ext_t R.gh h1, hv, e2, c3, by rw [h2.len]; exact c4, fun a ha => ?_⟩
        exact (new k.toNat a ha).resolve_right (fun h => h rfl)
      · refine .inr ⟨p, k, vs, rfl, is_int.mp iy, ext_t R.gh h1, hv, ?_⟩
        by_cases e1 : k = 1
        · subst e1
          refine .inl ⟨rfl, q (.ref p) H G (Ext.refl G) R (is_tup.mpr ⟨p, vs, rfl, h1, ?_⟩)⟩
          have e : (List.replicate (1 : Int).toNat l).flatten = l := by simp
          rw [e]
          exact h2
        · have e0 : k = 0 := by omega
          subst e0
          exact .inr ⟨rfl, fun a ha => (new 0 a ha).resolve_right (fun h => h rfl)⟩
    · cases h
  · cases h
theorem de_tmul {X : Cx} {a b : Expr} {fa fb : DM Dt} {pos : Pos} (ha : DE X a fa) (hb : DE X b fb) : DE X (.BinOp a .Mult b pos) (m2 gTMul fa fb) := de_op (op_repT.or TM.op_rep01) r2_tmul ha hb
omit [DL.Me] in
def mTupOf (f : DM Dt) : DM Dt := fun s => (f s).bind fun p => match p.1 with
  | .lst l => some (.tup l, p.2)
  | .tup l => some (.tup l, p.2)
  | _ => none
theorem de_tupOf {X : Cx} {a : Expr} {f : DM Dt} {p pos : Pos} (hg : Gl X "tuple") (hm : X.mg "tuple" = none) (ha : DE X a f) (na : starEach [a] X.env = (false, eval a X.env) :: starEach [] X.env := by rfl) : DE X (.Call (.Name "tuple" p) [a] [] pos) (mTupOf f) := by
  obtain ⟨t, p1, o1⟩ := ha
  refine ⟨_, pe_tupleOf hg hm p1 na, fun β P σ H G s d s' R e Q q => ?_⟩
  unfold mTupOf at e
  obtain ⟨⟨x, s1⟩, e1, e⟩ := Option.bind_eq_some_iff.mp e
  cases x with
  | lst l =>
    cases e
    refine o1 β P σ H G s _ s1 R e1 _ fun v H1 G1 x1 R1 i1 => ?_
    obtain ⟨b, vs, rfl, h1, h2⟩ := is_lst.mp i1
    refine .inl ⟨b, vs, rfl, .inl (.inl (R1.gh _ _ h1)), fun c hc => ?_⟩
    have xx := Ext.new (o := .tup vs) (R1.free hc)
    exact q _ _ _ (x1.trans xx) (R1.new hc) (is_tup.mpr ⟨c, vs, rfl, .inl (.inl upd_same), IsL.mono xx _ _ h2⟩)
  | tup l =>
    cases e
    refine o1 β P σ H G s _ s1 R e1 _ fun v H1 G1 x1 R1 i1 => ?_
    obtain ⟨b, vs, rfl, h1, h2⟩ := is_tup.mp i1
    exact .inr ⟨b, vs, rfl, ext_t R1.gh h1, q _ H1 G1 x1 R1 i1⟩
  | _ => cases e
omit [DL.Me] in
def enumD : Nat → List Dt → List Dt
  | _, [] => []
  | n, d :: l => .tup [.int (n : Nat), d] :: enumD (n + 1) l
theorem enum_len : ∀ (l : List Dt) (n : Nat), (enumD n l).length = l.length
  | [], _ => rfl
  | d :: l, n => by simp [enumD, enum_len l]
theorem enum_get : ∀ (l : List Dt) (n i : Nat) (d : Dt), (enumD n l)[i]? = some d → ∃ x, l[i]? = some x ∧ d = .tup [.int ((n + i : Nat)), x]
  | [], n, i, d, h => by simp [enumD] at h
  | x :: l, n, 0, d, h => by
    simp [enumD] at h
    exact ⟨x, rfl, h.symm⟩
  | x :: l, n, i + 1, d, h => by
    simp only [enumD, List.getElem?_cons_succ] at h
    obtain ⟨y, h1, h2⟩ := enum_get l (n + 1) i d h
    exact ⟨y, by simpa using h1, by rw [h2, show n + 1 + i = n + (i + 1) by omega]⟩
omit [DL.Me] in
def mInsert (i : Nat) (f g : DM Dt) : DM Dt := fun s => (f s).bind fun p => (g p.2).bind fun r => match r.2.sl[i]?, p.1 with
  | some (some (.mut none l)), .int k => if l.length < 100000 ∧ 0 ≤ k ∧ k < 1000000 then some (.non, { r.2 with sl := r.2.sl.set i (some (.own (l.take k.toNat ++ [r.1] ++ l.drop k.toNat))) }) else none
  | _, _ => none
theorem de_insert {X : Cx} {o a b : Expr} {f g : DM Dt} {apos cpos : Pos} (i : Nat) (h : PE X o (tVar i)) (ha : DE X a f) (hb : DE X b g) (hne : ∀ s d s', f s = some (d, s') → s'.sl[i]? = s.sl[i]?) (hne2 : ∀ s d s', g s = some (d, s') → s'.sl[i]? = s.sl[i]?)
    (hbase : attributeBase o "insert" X.env (eval o X.env) = eval o X.env := by rfl)
    (hfew : ((backTo cpos (starEach [a, b] X.env)).all (fun x => !x.1) && (backToKw cpos (keywordEach [] X.env)).all (fun x => x.1.isSome)
      && decide ([a, b].length + ([] : List Keyword).length + (if ([] : List Keyword).isEmpty then 0 else 1) < 30)) = true := by rfl)
    (hline : (apos.endLine == cpos.line) = true := by rfl) (hs : starEach [a, b] X.env = (false, eval a X.env) :: starEach [b] X.env := by rfl) (hs2 : starEach [b] X.env = (false, eval b X.env) :: starEach [] X.env := by rfl) (hplain : (backTo cpos (starEach [b] X.env)).any (·.1) = false := by rfl) :
    DE X (.Call (.Attribute o "insert" apos) [a, b] [] cpos) (mInsert i f g) := by
  obtain ⟨t, p1, o1⟩ := ha
  obtain ⟨t2, p2, o2⟩ := hb
  refine ⟨_, pe_bm PySem.F.plainAttrs_list PySem.F.slot_list_insert PySem.F.type_list_insert mt_insert h (pa_cons p1 (pa_cons p2 pa_nil hs2) hs) hbase hfew hline hs hplain, fun β P σ H G s d s' R e Q q => ?_⟩
  unfold mInsert at e
  obtain ⟨⟨x, s1⟩, e1, e⟩ := Option.bind_eq_some_iff.mp e
  obtain ⟨⟨y, s2⟩, e2, e⟩ := Option.bind_eq_some_iff.mp e
  dsimp only at e
  split at e
  · rename_i l k hi he
    split at e
    · rename_i hl
      cases e
      have hi1 : s1.sl[i]? = some (some (.own l)) := by rw [← hne2 _ _ _ e2]; exact hi
      have hi0 : s.sl[i]? = some (some (.own l)) := by rw [← hne _ _ _ e1]; exact hi1
      obtain ⟨p, vs, q1, q2, _⟩ := R.own i l _ hi0
      refine ⟨_, q1, .inl ⟨rfl, vs, .inl (.inl q2)⟩, ?_⟩
      refine o1 β P σ H G s _ s1 R e1 _ fun v H1 G1 x1 R1 i1 => ?_
      refine o2 β P σ H1 G1 s1 y s2 R1 e2 _ fun u H2 G2 x2 R2 i2 => ?_
      obtain ⟨p', vs', r1, r2, r3, r4, r5, r6⟩ := R2.own i l _ hi
      rw [q1] at r1
      cases r1
      rw [is_int.mp i1]
      refine ⟨p, vs', k, u, rfl, rfl, r2, by rw [r6.len]; exact Nat.lt_of_lt_of_le hl.1 (by decide), hl.2.1, by omega, ?_⟩
      refine q _ _ G2 (x1.trans x2) (R2.putOwn hi q1 ?_) (is_non.mpr rfl)
      exact ((r6.take _).snoc i2).append (r6.drop _)
    · cases e
  · cases e
end DT
set_option maxHeartbeats 4000000
namespace DT
open PySem PySem.Spec PyProof.Rows L2 DL SrtO STI
variable [DL.Tabs] [DL.Me]
omit [DL.Me] in
def intsD : List Dt → Option (List Int)
  | [] => some []
  | .int i :: l => (intsD l).map (i :: ·)
  | _ :: _ => none
omit [DL.Me] in
def keyD : Dt → List Int
  | .tup l => (intsD l).getD []
  | _ => []
omit [DL.Me] in
def isRowD : Dt → Bool
  | .tup l => (intsD l).isSome && !l.isEmpty
  | _ => false
omit [DL.Me] in
def sortD (l : List Dt) : List Dt := sortS (fun a b => ltL (keyD a) (keyD b)) l
omit [DL.Me] in
def gSorted : List Dt → Option Dt
  | [.lst l] => if l.all isRowD = true then some (.lst (sortD l)) else none
  | _ => none
theorem ints_of {K : PySem.W.Frag} {β : Addr} {G : Hp} : ∀ {l : List Dt} {ns : List Int} {us : List V}, intsD l = some ns → DL.IsL K β G l us → us = ns.map V.int
  | [], ns, us, h, i => by cases h; exact isl_nil.mp i
  | .int i :: l, ns, us, h, q => by
    obtain ⟨v, r, rfl, h1, h2⟩ := isl_cons.mp q
    unfold intsD at h
    cases e : intsD l with
    | none => rw [e] at h; cases h
    | some ms =>
      rw [e] at h
      cases h
      rw [is_int.mp h1, ints_of e h2]
      rfl
  | .non :: _, _, _, h, _ => by cases h
  | .bl _ :: _, _, _, h, _ => by cases h
  | .str _ :: _, _, _, h, _ => by cases h
  | .tup _ :: _, _, _, h, _ => by cases h
  | .lst _ :: _, _, _, h, _ => by cases h
  | .bag :: _, _, _, h, _ => by cases h
  | .dic _ _ :: _, _, _, h, _ => by cases h
  | .ins _ _ _ :: _, _, _, h, _ => by cases h
  | .err _ _ _ :: _, _, _, h, _ => by cases h
  | .old _ :: _, _, _, h, _ => by cases h
theorem row_of {K : PySem.W.Frag} {β : Addr} {G : Hp} {d : Dt} {v : V} (h : isRowD d = true) (i : DL.IsD K β G d v) : (∃ t, v = V.ref t ∧ SqT K G t ((keyD d).map V.int)) ∧ keyD d ≠ [] := by
  cases d with
  | tup l =>
    unfold isRowD at h
    rw [Bool.and_eq_true] at h
    obtain ⟨ns, e⟩ := Option.isSome_iff_exists.mp h.1
    obtain ⟨a, vs, rfl, h1, h2⟩ := is_tup.mp i
    have ek : keyD (.tup l) = ns := by show (intsD l).getD [] = ns; rw [e]; rfl
    rw [ek]
    have ev := ints_of e h2
    refine ⟨⟨a, rfl, by rw [← ev]; exact h1⟩, fun z => ?_⟩
    subst z
    have hl := h2.len
    rw [ev] at hl
    have : l = [] := List.eq_nil_of_length_eq_zero hl.symm
    rw [this] at h
    exact absurd h.2 (by decide)
  | _ => cases h
/-- each with its value -/
theorem aligned {K : PySem.W.Frag} {β : Addr} {G : Hp} : ∀ {l : List Dt} {vs : List V}, DL.IsL K β G l vs → ∃ M : List (Dt × V), l = M.map (·.1) ∧ vs = M.map (·.2) ∧ ∀ m ∈ M, DL.IsD K β G m.1 m.2
  | [], vs, h => ⟨[], rfl, isl_nil.mp h, fun _ h => nomatch h⟩
  | d :: l, vs, h => by
    obtain ⟨v, r, rfl, h1, h2⟩ := isl_cons.mp h
    obtain ⟨M, rfl, rfl, h3⟩ := aligned h2
    refine ⟨(d, v) :: M, rfl, rfl, fun m hm => ?_⟩
    rcases List.mem_cons.mp hm with rfl | hm
    · exact h1
    · exact h3 m hm
theorem isl_of {K : PySem.W.Frag} {β : Addr} {G : Hp} : ∀ {M : List (Dt × V)}, (∀ m ∈ M, DL.IsD K β G m.1 m.2) → DL.IsL K β G (M.map (·.1)) (M.map (·.2))
  | [], _ => isl_nil.mpr rfl
  | m :: M, h => isl_cons.mpr ⟨_, _, rfl, h m (List.mem_cons_self ..), isl_of fun x hx => h x (List.mem_cons_of_mem _ hx)⟩
theorem ok_sorted {K : PySem.W.Frag} : Rok K (rSortedL K) gSorted := by
  intro β P σ H G s vs ds d R i e Q q
  unfold gSorted at e
  split at e
  · rename_i l
    split at e
    · rename_i c
      cases e
      obtain ⟨v, rfl, h⟩ := one_of i
      obtain ⟨a, us, rfl, h1, h2⟩ := is_lst.mp h
      obtain ⟨M, rfl, rfl, h3⟩ := aligned h2
      have row : ∀ m ∈ M, isRowD m.1 = true := fun m hm => List.all_eq_true.mp c m.1 (List.mem_map.mpr ⟨m, hm, rfl⟩)
      let N := sortS (fun x y : Dt × V => ltL (keyD x.1) (keyD y.1)) M
      refine ⟨a, M.map fun m => (m.2, keyD m.1), rfl, ?_, fun p hp => ?_, fun p hp => ?_⟩
      · rw [List.map_map]
        exact .inl (.inl (R.gh _ _ h1))
      · obtain ⟨m, hm, rfl⟩ := List.mem_map.mp hp
        obtain ⟨⟨t, e1, e2⟩, e3⟩ := row_of (row m hm) (h3 m hm)
        exact ⟨⟨t, e1, ext_t R.gh e2⟩, e3⟩
      · have e1 : (sortS (fun u v : V × List Int => ltL u.2 v.2) (M.map fun m => (m.2, keyD m.1))).map (·.1) = N.map (·.2) := by
          rw [sort_map, List.map_map]
          rfl
        have e2 : sortD (M.map (·.1)) = N.map (·.1) := sort_map _ _ M
        rw [e1]
        rw [e2] at q
        have hN : ∀ m ∈ N, DL.IsD K β G m.1 m.2 := fun m hm => h3 m ((sort_perm _ M).mem_iff.mp hm)
        have xx := Ext.new (o := .lst (N.map (·.2))) (R.free hp)
        exact q _ _ _ xx (R.new hp) (is_lst.mpr ⟨p, _, rfl, upd_same, IsL.mono xx _ _ (isl_of hN)⟩)
    · cases e
  · cases e
end DT
set_option maxHeartbeats 4000000
namespace SD
open PySem PyProof.Rows SS
/-- whether z is among the first i -/
def among (xs : List Str) (i : Nat) (z : Str) : Bool := (xs.take i).any (· == z)
theorem among_succ {xs : List Str} {i : Nat} (hi : i < xs.length) (z : Str) : among xs (i + 1) z = (among xs i z || decide (z = xs.getD i Str.empty)) := by
  unfold among
  have e : xs.take (i + 1) = xs.take i ++ [xs.getD i Str.empty] := by
    rw [List.take_add_one, List.getElem?_eq_getElem hi]
    simp [List.getD, hi]
  rw [e, List.any_append]
  congr 1
  show ((xs.getD i Str.empty == z) || false) = _
  rw [Bool.or_false]
  by_cases c : z = xs.getD i Str.empty
  · rw [c]; simp
  · rw [decide_eq_false c]
    exact beq_eq_false_iff_ne.mpr (Ne.symm c)
theorem among_new {xs : List Str} {i : Nat} (nd : xs.Nodup) (hi : i < xs.length) : among xs i (xs.getD i Str.empty) = false := by
  unfold among
  refine List.any_eq_false.mpr fun y hy e => ?_
  have e' : y = xs.getD i Str.empty := by simpa using e
  obtain ⟨j, hj, rfl⟩ := List.mem_iff_getElem.mp hy
  rw [List.length_take] at hj
  rw [List.getElem_take] at e'
  have e2 : xs[j]'(by omega) = xs[i] := by
    rw [e']
    simp [List.getD, hi]
  have := (List.getElem_inj nd).mp e2
  omega
end SD
namespace SD
open PySem PyProof.Rows SS
section
variable {prog : Program} {w : World} {A : Around} {E : Value → Shared → Prop} {s : Shared} {l : Addr} {zs : Array Value} {xs : List Str} {Q : Value → Shared → Prop}
/-- the empty set, as it is laid -/
abbrev emptySet (b : Bool) : Obj := { cls := .type "set", dict := none, data := .set #[] 0 (.fresh 0 0 b) }
end
end SD
set_option maxHeartbeats 4000000
namespace DT
open PySem PySem.Spec PyProof.Rows L2 DL
variable [DL.Tabs] [DL.Me]
omit [DL.Me] in
def txtsD : List Dt → Option (List Str)
  | [] => some []
  | .str z :: l => (txtsD l).map (z :: ·)
  | _ :: _ => none
theorem txts_of {K : PySem.W.Frag} {β : Addr} {G : Hp} : ∀ {l : List Dt} {ns : List Str} {us : List V}, txtsD l = some ns → DL.IsL K β G l us → us = ns.map V.str
  | [], ns, us, h, i => by cases h; exact isl_nil.mp i
  | .str z :: l, ns, us, h, q => by
    obtain ⟨v, r, rfl, h1, h2⟩ := isl_cons.mp q
    unfold txtsD at h
    cases e : txtsD l with
    | none => rw [e] at h; cases h
    | some ms =>
      rw [e] at h
      cases h
      rw [is_str.mp h1, txts_of e h2]
      rfl
  | .non :: _, _, _, h, _ => by cases h
  | .bl _ :: _, _, _, h, _ => by cases h
  | .int _ :: _, _, _, h, _ => by cases h
  | .tup _ :: _, _, _, h, _ => by cases h
  | .lst _ :: _, _, _, h, _ => by cases h
  | .bag :: _, _, _, h, _ => by cases h
  | .dic _ _ :: _, _, _, h, _ => by cases h
  | .ins _ _ _ :: _, _, _, h, _ => by cases h
  | .err _ _ _ :: _, _, _, h, _ => by cases h
  | .old _ :: _, _, _, h, _ => by cases h
end DT
set_option maxHeartbeats 4000000
namespace DB
open PySem PySem.Spec PyProof.Rows L2 DL DI
open PySem.Calls
theorem noT {T : String} {nm : String} (h1 : typeLookup (.type T) (PySem.dunder nm) = pure none) (h2 : typeLookup (.type T) (dunderR nm) = pure none) : fillsNumberSlot (.type T) nm = pure false := by
  simp only [fillsNumberSlot, h1, h2, pure_bind, Option.isSome_none, Bool.false_and, Bool.or_false]
variable [DL.Tabs] [DL.Me]
end DB
namespace DL
open PySem PySem.Spec PyProof.Rows L2
variable [Tabs] [Me]
section
variable {K : PySem.W.Frag} {β : Addr} {P : Hp} {σ : L2.St} {H G : Hp} {s : Sta}
/-- what an own list or dict holds is changed -/
theorem Rel.putMut (R : Rel K β P σ H G s) {i : Nat} {p : Addr} {l l' : List Dt} {kn kn' : Option (List Key)} {vs' : List V} (hi : s.sl[i]? = some (some (.mut kn l))) (hp : σ[i]? = some (some (.ref p))) (h : IsL K β G l' vs') :
    Rel K β P σ (upd H p (ownO kn' vs')) G { s with sl := s.sl.set i (some (.mut kn' l')) } := by
  obtain ⟨p', vs, e1, e2, e3, e4, e5, _⟩ := R.own i l _ hi
  rw [hp] at e1
  cases e1
  have hlen : i < s.sl.length := (List.getElem?_eq_some_iff.mp hi).1
  exact {
    len := by simp [R.len]
    gh := fun a o e => by rw [upd_ne (ne_of_none e e3)]; exact R.gh a o e
    pr := fun a o e => by
      have n : a ≠ p := fun z => by rw [z, e4] at e; cases e
      rw [upd_ne n]; exact R.pr a o e
    pb := R.pb
    bag := by
      obtain ⟨us, h1, h2, h3⟩ := R.bag
      exact ⟨us, by rw [upd_ne e5.symm]; exact h1, h2, h3⟩
    dat := fun j d q => by
      rw [get_set] at q
      by_cases c : i = j ∧ i < s.sl.length
      · rw [if_pos c] at q; cases q
      · rw [if_neg c] at q; exact R.dat j d q
    own := fun j m kk q => by
      rw [get_set] at q
      by_cases c : i = j ∧ i < s.sl.length
      · rw [if_pos c] at q
        cases q
        obtain ⟨rfl, _⟩ := c
        exact ⟨p, vs', hp, upd_same, e3, e4, e5, h⟩
      · rw [if_neg c] at q
        obtain ⟨p', us, h1, h2, h3⟩ := R.own j m _ q
        have n : p' ≠ p := fun z => by
          subst z
          exact c ⟨R.dj i j l m _ _ p' hi q hp h1, hlen⟩
        exact ⟨p', us, h1, by rw [upd_ne n]; exact h2, h3⟩
    dj := fun j k l1 m kl km a q1 q2 r1 r2 => by
      simp only [get_set] at q1 q2
      by_cases c : i = j ∧ i < s.sl.length
      · obtain ⟨rfl, _⟩ := c
        by_cases c' : i = k ∧ i < s.sl.length
        · exact c'.1
        · rw [if_neg c'] at q2
          exact R.dj i k l m _ _ a hi q2 r1 r2
      · rw [if_neg c] at q1
        by_cases c' : i = k ∧ i < s.sl.length
        · obtain ⟨rfl, _⟩ := c'
          exact R.dj j i l1 l _ _ a q1 hi r1 r2
        · rw [if_neg c'] at q2
          exact R.dj j k l1 m _ _ a q1 q2 r1 r2
    obj := fun j c0 ks m q => by
      rw [get_set] at q
      by_cases c : i = j ∧ i < s.sl.length
      · rw [if_pos c] at q; cases q
      · rw [if_neg c] at q
        obtain ⟨p', C, dx, us, h1, h0, h2, h3⟩ := R.obj j c0 ks m q
        have n : p' ≠ p := fun z => by
          rw [z, e2] at h2
          cases kn <;> cases h2
        exact ⟨p', C, dx, us, h1, h0, by rw [upd_ne n]; exact h2, h3⟩
    oj := fun j k c0 ks l c1 ks' l' q1 q2 => by
      simp only [get_set] at q1 q2
      by_cases c : i = j ∧ i < s.sl.length
      · rw [if_pos c] at q1; cases q1
      by_cases c' : i = k ∧ i < s.sl.length
      · rw [if_pos c'] at q2; cases q2
      rw [if_neg c] at q1
      rw [if_neg c'] at q2
      exact R.oj j k _ _ _ _ _ _ q1 q2
    fns := fun j l q e => by
      rw [get_set] at e
      by_cases c : i = j ∧ i < s.sl.length
      · rw [if_pos c] at e; cases e
      · rw [if_neg c] at e
        exact R.fns j l q e
    tabs := fun q hq => by
      obtain ⟨t, g, n⟩ := R.tabs q hq
      exact ⟨t.of (upd_ne (t.neO e2)) (Ext.refl G), g, n⟩
    pt := R.pt
    nt := R.nt }
end
end DL
namespace DL
open PySem PySem.Spec PyProof.Rows L2
variable [Tabs] [Me]
omit [Tabs] [Me] in
def keyOf : Dt → Option Key
  | .int i => some (.inl i)
  | .str x => some (.inr x)
  | _ => none
theorem keyOf_ok {K : PySem.W.Frag} {β : Addr} {G : Hp} {d : Dt} {v : V} {k : Key} (i : IsD K β G d v) (e : keyOf d = some k) : v = kV k := by
  unfold keyOf at e
  split at e
  · cases e; exact is_int.mp i
  · cases e; exact is_str.mp i
  · cases e
omit [Tabs] [Me] in
def hasK (ks : List Key) (k : Key) : Bool := ks.any fun j => decide (j = k)
omit [Tabs] [Me] in
def repL {α : Type} : List Key → List α → Key → α → List α
  | k' :: ks, x :: xs, k, y => (if k' = k then y else x) :: repL ks xs k y
  | _, _, _, _ => []
omit [Tabs] [Me] in
def putKs (ks : List Key) (k : Key) : List Key := if hasK ks k = true then ks else ks ++ [k]
omit [Tabs] [Me] in
def putLs {α : Type} (ks : List Key) (l : List α) (k : Key) (y : α) : List α := if hasK ks k = true then repL ks l k y else l ++ [y]
omit [Tabs] [Me] in
theorem repL_len {α : Type} {k : Key} {y : α} : ∀ {ks : List Key} {l : List α}, ks.length = l.length → (repL ks l k y).length = l.length
  | [], [], _ => rfl
  | _ :: _, _ :: _, h => by
    unfold repL
    rw [List.length_cons, List.length_cons, repL_len (Nat.succ.inj h)]
omit [Tabs] [Me] in
theorem putKs_len {α : Type} {k : Key} {y : α} {ks : List Key} {l : List α} (h : ks.length = l.length) : (putKs ks k).length = (putLs ks l k y).length := by
  unfold putKs putLs
  split
  · rw [repL_len h]; exact h
  · rw [List.length_append, List.length_append, h]; rfl
omit [Tabs] [Me] in
theorem zip_rep {k : Key} {y : V} : ∀ {ks : List Key} {vs : List V}, ks.length = vs.length → (ks.zip vs).map (fun kv => if kv.1 = k then (kv.1, y) else kv) = ks.zip (repL ks vs k y)
  | [], [], _ => rfl
  | k' :: ks, x :: vs, h => by
    unfold repL
    rw [List.zip_cons_cons, List.zip_cons_cons, List.map_cons, zip_rep (Nat.succ.inj h)]
    congr 1
    split <;> rfl
omit [Tabs] [Me] in
theorem zip_any {k : Key} : ∀ {ks : List Key} {vs : List V}, ks.length = vs.length → ((ks.zip vs).any fun kv => decide (kv.1 = k)) = hasK ks k
  | [], [], _ => rfl
  | k' :: ks, x :: vs, h => by
    rw [List.zip_cons_cons, List.any_cons, zip_any (Nat.succ.inj h)]
    rfl
omit [Tabs] [Me] in
theorem putK_zip {k : Key} {y : V} {ks : List Key} {vs : List V} (h : ks.length = vs.length) : putK (ks.zip vs) k y = (putKs ks k).zip (putLs ks vs k y) := by
  unfold putK putKs putLs
  rw [zip_any h]
  by_cases c : hasK ks k = true
  · rw [if_pos c, if_pos c, if_pos c, zip_rep h]
  · rw [if_neg c, if_neg c, if_neg c, List.zip_append h]
    rfl
theorem isl_rep {K : PySem.W.Frag} {β : Addr} {G : Hp} {k : Key} {d : Dt} {v : V} (hd : IsD K β G d v) : ∀ {ks : List Key} {l : List Dt} {vs : List V}, IsL K β G l vs → IsL K β G (repL ks l k d) (repL ks vs k v)
  | [], l, vs, _ => by
    have e1 : repL ([] : List Key) l k d = [] := by cases l <;> rfl
    have e2 : repL ([] : List Key) vs k v = [] := by cases vs <;> rfl
    rw [e1, e2]; exact isl_nil.mpr rfl
  | _ :: _, [], vs, h => by
    cases isl_nil.mp h
    exact isl_nil.mpr rfl
  | k' :: ks, x :: l, vs, h => by
    obtain ⟨u, r, rfl, h1, h2⟩ := isl_cons.mp h
    unfold repL
    refine isl_cons.mpr ⟨_, _, rfl, ?_, isl_rep hd h2⟩
    split
    · exact hd
    · exact h1
theorem isl_put {K : PySem.W.Frag} {β : Addr} {G : Hp} {k : Key} {d : Dt} {v : V} {ks : List Key} {l : List Dt} {vs : List V} (hd : IsD K β G d v) (h : IsL K β G l vs) : IsL K β G (putLs ks l k d) (putLs ks vs k v) := by
  unfold putLs
  split
  · exact isl_rep hd h
  · exact h.snoc hd
omit [Tabs] [Me] in
theorem valV_zip {k : Key} {ks : List Key} {vs : List V} (h : ks.length = vs.length) : (valV (ks.zip vs) k).isSome = hasK ks k := by
  rw [← valV_any, zip_any h]
omit [Me] in
def mInO (i : Nat) (fe : DM Dt) : DM Dt := fun s => (fe s).bind fun p => match p.2.sl[i]? with
  | some (some (.mut (some ks) l)) => (keyOf p.1).bind fun k => if ks.length = l.length then some (.bl (hasK ks k), p.2) else none
  | _ => none
omit [Me] in
def kPutO (i : Nat) (fk fv : DM Dt) : DMs := fun s => (fv s).bind fun p => (fk p.2).bind fun q => match q.2.sl[i]? with
  | some (some (.mut (some ks) l)) => (keyOf q.1).bind fun k => if ks.length = l.length ∧ ks.length < 100000 then some (.nx, { q.2 with sl := q.2.sl.set i (some (.mut (some (putKs ks k)) (putLs ks l k p.1))) }) else none
  | _ => none
section
variable {X : Cx} {o e ek ev : Expr} {fe fk fv : DM Dt} {pos p' : Pos}
theorem te_inO {K : PySem.W.Frag} {i : Nat} {t : TE} {f : DM Dt} (ho : TEok K t f) : TEok K (tDIn t (tVar i)) (mInO i f) := by
  intro β P σ H G s d s' R e Q q
  unfold mInO at e
  obtain ⟨⟨x, s1⟩, e1, ea⟩ := Option.bind_eq_some_iff.mp e
  clear e
  dsimp only at ea
  split at ea
  · rename_i ks l hi
    obtain ⟨k, e2, eb⟩ := Option.bind_eq_some_iff.mp ea
    split at eb
    · rename_i hl
      cases eb
      refine ho β P σ H G s x _ R e1 _ fun v H1 G1 x1 R1 i1 => ?_
      obtain ⟨p, vs, h1, h2, h3, h4, h5, h6⟩ := R1.own i l (some ks) hi
      rw [keyOf_ok i1 e2]
      refine ⟨.ref p, h1, p, valV (ks.zip vs) k, rfl, DGet.k h2, ?_⟩
      exact q _ H1 G1 x1 R1 (is_bl.mpr (by rw [valV_zip (by rw [h6.len]; exact hl)]))
    · cases eb
  · cases ea
theorem ds_putO {i : Nat} (hu : X.A.units + 1 < cLine) (ho : PE X o (tVar i)) (hk : DE X ek fk) (hv : DE X ev fv) (hne : ∀ s d s', fk s = some (d, s') → s'.sl[i]? = s.sl[i]?) (hs : swapsWith ev (some (.Subscript o ek p')) pos.line X.env = pure false := by rfl) :
    DS X (.Assign [.Subscript o ek p'] ev pos) (kPutO i fk fv) := by
  obtain ⟨tk, pk, ok⟩ := hk
  obtain ⟨tv, pv, ov⟩ := hv
  refine ⟨_, ps_dput hu ho pk pv hs, fun β P σ H G s r s' R e D kk => ?_⟩
  unfold kPutO at e
  obtain ⟨⟨y, s1⟩, e1, ea⟩ := Option.bind_eq_some_iff.mp e
  clear e
  obtain ⟨⟨z, s2⟩, e2, eb⟩ := Option.bind_eq_some_iff.mp ea
  clear ea
  dsimp only at eb
  split at eb
  · rename_i ks l hi
    obtain ⟨k, e3, ec⟩ := Option.bind_eq_some_iff.mp eb
    split at ec
    · rename_i hl
      obtain ⟨hl, hn⟩ := hl
      cases ec
      refine ov β P σ H G s y s1 R e1 _ fun v H1 G1 x1 R1 i1 => ?_
      have hi1 : s1.sl[i]? = some (some (.mut (some ks) l)) := by rw [← hne _ _ _ e2]; exact hi
      obtain ⟨p1, vs1, g1, _⟩ := R1.own i l (some ks) hi1
      refine ⟨.ref p1, g1, ?_⟩
      refine ok β P σ H1 G1 s1 z s2 R1 e2 _ fun u H2 G2 x2 R2 i2 => ?_
      obtain ⟨p, vs, h1, h2, h3, h4, h5, h6⟩ := R2.own i l (some ks) hi
      have ep : p1 = p := by rw [g1] at h1; cases h1; rfl
      subst ep
      have hlv : ks.length = vs.length := by rw [h6.len]; exact hl
      rw [keyOf_ok i2 e3]
      refine ⟨p1, _, rfl, DPut.k h2 ?_, ?_⟩
      · rw [List.length_zip, ← hlv, Nat.min_self]
        exact Nat.lt_trans hn (by decide)
      · rw [putK_zip hlv]
        exact kk σ _ G2 (x1.trans x2) (R2.putMut (kn' := some (putKs ks k)) hi h1 (isl_put (IsD.mono x2 _ _ i1) h6))
    · cases ec
  · cases eb
end
end DL
set_option maxHeartbeats 4000000
namespace DL
open PySem PySem.Spec PyProof.Rows L2
variable [Tabs] [Me]
theorem rel_hideO {K : PySem.W.Frag} {β : Addr} {P : Hp} {σ : L2.St} {H G : Hp} {s : Sta} (R : Rel K β P σ H G s) {D : Addr} {ob : HO} (hD : H D = none) (hx : Nx D ob) (vs : List Nat) :
    Rel K β (upd (shut β H G) D ob) (wipe σ vs) (upd H D ob) G ⟨wipeS (s.sl.map datOnly) vs, s.bag⟩ where
  len := by rw [wipe_len, wipeS_len, List.length_map]; exact R.len
  gh := fun a o e => by rw [upd_ne (ne_of_none e (R.free hD))]; exact R.gh a o e
  pr := fun p o e => by
    by_cases c : p = D
    · subst c; rw [upd_same] at e ⊢; exact ⟨e, R.free hD⟩
    · rw [upd_ne c] at e ⊢; exact R.callee.pr p o e
  pb := by
    obtain ⟨us, h1, _⟩ := R.bag
    rw [upd_ne (ne_of_none h1 hD)]; exact R.callee.pb
  bag := by
    obtain ⟨us, h1, h2, h3⟩ := R.bag
    exact ⟨us, by rw [upd_ne (ne_of_none h1 hD)]; exact h1, h2, h3⟩
  dat := fun i d e => by
    obtain ⟨hi, d', e1, e2⟩ := hid_get e
    cases e1
    obtain ⟨v, h1, h2⟩ := R.dat i d e2
    refine ⟨v, ?_, h2⟩
    rw [wipe_get, if_neg (fun q => hi q.1)]
    exact h1
  own := fun i l kk e => by
    obtain ⟨hi, d', e1, e2⟩ := hid_get e
    cases e1
  dj := fun i j l m kl km p e => by
    obtain ⟨hi, d', e1, e2⟩ := hid_get e
    cases e1
  obj := fun i c ks l e => by
    obtain ⟨hi, d', e1, e2⟩ := hid_get e
    cases e1
  oj := fun i j c ks l c' ks' l' e => by
    obtain ⟨hi, d', e1, e2⟩ := hid_get e
    cases e1
  fns := fun i l q e => by
    obtain ⟨hi, d', e1, e2⟩ := hid_get e
    cases e1
  tabs := fun q hq => by
    obtain ⟨t, g, n⟩ := R.tabs q hq
    have z := t.ne hD
    exact ⟨t.of (upd_ne z) (Ext.refl G), g, by rw [upd_ne z]; exact shut_tab hq⟩
  pt := fun p o h => by
    by_cases c : p = D
    · subst c; rw [upd_same] at h; cases h; exact hx
    · rw [upd_ne c] at h; exact shut_nx h
  nt := R.nt
theorem rel_backO {K : PySem.W.Frag} {β : Addr} {P : Hp} {σ σ0 : L2.St} {H H0 G G0 : Hp} {s s0 : Sta} {D : Addr} {ob : HO} (R0 : Rel K β P σ H0 G0 s) (hD : H0 D = none) (R : Rel K β (upd (shut β H0 G0) D ob) σ0 H G s0) (e : Ext G0 G) :
    Rel K β P σ H G { s with bag := s0.bag } ∧ H D = some ob ∧ G D = none ∧ P D = none ∧ D ≠ β ∧ ∀ (i : Nat) (l : List Dt) (kk : Option (List Key)), s.sl[i]? = some (some (.mut kk l)) → σ[i]? ≠ some (some (.ref D)) := by
  have q := R.pr D _ upd_same
  have hb : β ≠ D := fun c => by have q := R.pb; rw [c, upd_same] at q; cases q
  have keep : ∀ p o, H0 p = some o → G0 p = none → p ≠ β → (∀ t ∈ Tabs.ts, t.1 ≠ p) → Nx p o → H p = some o ∧ G p = none := fun p o h1 h2 h3 h4 h5 => by
    have n : p ≠ D := ne_of_none h1 hD
    have k := R.pr p o (by rw [upd_ne n]; exact shut_some h1 h2 h3 h4 h5)
    exact k
  refine ⟨?_, q.1, q.2, ?_, hb.symm, fun i l kk e z => ?_⟩
  rotate_left
  · cases e : P D with
    | none => rfl
    | some o => have := (R0.pr D o e).1; rw [hD] at this; cases this
  · obtain ⟨p, vs, h1, h2, _⟩ := R0.own i l _ e
    rw [z] at h1
    cases h1
    rw [hD] at h2; cases h2
  exact {
    len := R0.len
    gh := R.gh
    pr := fun p o h => by
      have h1 := R0.pr p o h
      exact keep p o h1.1 h1.2 (fun z => by subst z; rw [R0.pb] at h; cases h) (fun t ht z => by rw [← z, (R0.tabs t ht).2.2] at h; cases h) (R0.pt p o h)
    pb := R0.pb
    bag := by
      obtain ⟨us, h1, h2, h3⟩ := R.bag
      exact ⟨us, h1, h2, h3⟩
    dat := fun i d h => by
      obtain ⟨v, h1, h2⟩ := R0.dat i d h
      exact ⟨v, h1, IsD.mono e _ _ h2⟩
    own := fun i l kk h => by
      obtain ⟨p, vs, h1, h2, h3, h4, h5, h6⟩ := R0.own i l _ h
      have k := keep p _ h2 h3 h5 (fun t ht z => (R0.tabs t ht).1.neO h2 z) nx_own
      exact ⟨p, vs, h1, k.1, k.2, h4, h5, IsL.mono e _ _ h6⟩
    dj := R0.dj
    obj := fun i c ks l h => by
      obtain ⟨p, C, dx, vs, h1, h0, h2, h3, h4, h5, h6⟩ := R0.obj i c ks l h
      have n : p ≠ β := fun z => by
        obtain ⟨us, b1, _⟩ := R0.bag
        rw [← z, h2] at b1
        cases b1
      have k := keep p _ h2 h3 n (fun t ht z => (R0.tabs t ht).1.neI h2 z) nx_ins
      exact ⟨p, C, dx, vs, h1, h0, k.1, k.2, h4, h5, IsL.mono e _ _ h6⟩
    oj := R0.oj
    fns := fun i l q h => (R0.fns i l q h).mono e
    tabs := fun y hy => by
      obtain ⟨t, g, n⟩ := R.tabs y hy
      have z : y.1 ≠ D := fun z => by rw [z, upd_same] at n; cases n
      exact ⟨t, g, (R0.tabs y hy).2.2⟩
    pt := R0.pt
    nt := R.nt }
section
variable {K : PySem.W.Frag} {β : Addr} {P : Hp} {σ : L2.St} {H G : Hp} {s : Sta}
/-- a list or dict that stands in the heap and that nobody else knows of: slot i holds it -/
theorem Rel.adopt (R : Rel K β P σ H G s) {i : Nat} {p : Addr} {l : List Dt} {kn : Option (List Key)} {vs : List V} (hp : H p = some (ownO kn vs)) (hG : G p = none) (hP : P p = none) (hb : p ≠ β) (ho : ∀ (i : Nat) (l : List Dt) (kk : Option (List Key)), s.sl[i]? = some (some (.mut kk l)) → σ[i]? ≠ some (some (.ref p))) (h : IsL K β G l vs) :
    Rel K β P (σ.set i (some (.ref p))) H G { s with sl := s.sl.set i (some (.mut kn l)) } where
  len := by simp [R.len]
  gh := R.gh
  pr := R.pr
  pb := R.pb
  bag := R.bag
  dat := fun j d q => by
    rw [get_set] at q ⊢
    rw [R.len]
    by_cases c : i = j ∧ i < s.sl.length
    · rw [if_pos c] at q; cases q
    · rw [if_neg c] at q ⊢; exact R.dat j d q
  own := fun j m kk q => by
    rw [get_set] at q ⊢
    rw [R.len]
    by_cases c : i = j ∧ i < s.sl.length
    · rw [if_pos c] at q ⊢
      cases q
      exact ⟨p, vs, rfl, hp, hG, hP, hb, h⟩
    · rw [if_neg c] at q ⊢
      obtain ⟨p', us, h1, h2, h3⟩ := R.own j m _ q
      exact ⟨p', us, h1, h2, h3⟩
  dj := fun j k l m kl km a q1 q2 r1 r2 => by
    simp only [get_set] at q1 q2 r1 r2
    rw [R.len] at r1 r2
    by_cases c : i = j ∧ i < s.sl.length
    · by_cases c' : i = k ∧ i < s.sl.length
      · exact c.1.symm.trans c'.1
      · rw [if_pos c] at r1
        rw [if_neg c'] at q2 r2
        cases r1
        exact absurd r2 (ho k m _ q2)
    · by_cases c' : i = k ∧ i < s.sl.length
      · rw [if_pos c'] at r2
        rw [if_neg c] at q1 r1
        cases r2
        exact absurd r1 (ho j l _ q1)
      · rw [if_neg c] at q1 r1
        rw [if_neg c'] at q2 r2
        exact R.dj j k l m _ _ a q1 q2 r1 r2
  obj := fun j c0 ks l q => by
    rw [get_set] at q
    by_cases c : i = j ∧ i < s.sl.length
    · rw [if_pos c] at q
      cases q
    · rw [if_neg c] at q
      obtain ⟨p', C, dx, us, h1, h0, h2, h3⟩ := R.obj j c0 ks l q
      refine ⟨p', C, dx, us, ?_, h0, h2, h3⟩
      rw [get_set, R.len, if_neg c]
      exact h1
  oj := fun j k c0 ks l c1 ks' l' q1 q2 => by
    simp only [get_set] at q1 q2
    by_cases c : i = j ∧ i < s.sl.length
    · rw [if_pos c] at q1; cases q1
    by_cases c' : i = k ∧ i < s.sl.length
    · rw [if_pos c'] at q2; cases q2
    rw [if_neg c] at q1
    rw [if_neg c'] at q2
    exact R.oj j k _ _ _ _ _ _ q1 q2
  fns := fun j l q e => by
    rw [get_set] at e
    by_cases c : i = j ∧ i < s.sl.length
    · rw [if_pos c] at e; cases e
    · rw [if_neg c] at e
      exact (R.fns j l q e).of (by rw [get_set, R.len, if_neg c])
  tabs := R.tabs
  pt := R.pt
  nt := R.nt
end
section
variable {X : Cx}
theorem ps_setDc {i : Nat} {y : Str} {py : Pos} {kx vx tg iter : Expr} {ifs : List Expr} {scope : Scope} {own : List (Str × Nat)} {pos spos : Pos} {wi : TI} {g : TG} {tt : TT} {tk tv : TE} (hc : X.calm = true) (hN : X.N.Nodup) (hy : X.N[i]? = some y) (hyl : X.env.scope.names.lookup y = some .local)
    (hsw : swapsWith (.DictComp kx vx [⟨tg, iter, ifs, 0⟩] scope pos) (some (.Name y py)) spos.line X.env = pure true) (hi : PI X tg iter wi) (ok : BlkOk X.N X.env.scope scope own)
    (hg : ∀ (s : Shared) (H : Hp) (C : Addr) (cl : List (Str × Addr)) (fp : List Addr), PG (X.blk s H scope (compEnvC scope cl C X.env) fp) tg g) (ht : ∀ (s : Shared) (H : Hp) (C : Addr) (cl : List (Str × Addr)) (fp : List Addr), PTs (X.blk s H scope (compEnvC scope cl C X.env) fp) ifs tt)
    (hk : ∀ (s : Shared) (H : Hp) (C : Addr) (cl : List (Str × Addr)) (fp : List Addr), PE (X.blk s H scope (compEnvC scope cl C X.env) fp) kx tk)
    (he : ∀ (s : Shared) (H : Hp) (C : Addr) (cl : List (Str × Addr)) (fp : List Addr), PE (X.blk s H scope (compEnvC scope cl C X.env) fp) vx tv) (hs : ∀ x, foldedSetIterable iter X.env x = pure x := by intro _; rfl) :
    PS X (.Assign [.Name y py] (.DictComp kx vx [⟨tg, iter, ifs, 0⟩] scope pos) spos) (tAsg (tDc wi g tt tk tv (own.map (·.2))) (gName i)) := by
  refine ⟨fun pins s σ H D I h => ?_⟩
  rw [PySem.exec_Assign_Name_used _ _ _ _ hsw]
  refine wpAny_bind (wpAny_standAt (wpAny_bind ?_))
  show wpAny _ X.A (do let _ ← comprehension (.DictComp kx vx [⟨tg, iter, ifs, 0⟩] scope pos) scope X.env (firstIterPos [⟨tg, iter, ifs, 0⟩] pos) newDict false (eval iter X.env) (some (assign (.Name y py) X.env))) _ _ s
  have h : tDc wi g tt tk tv (own.map (·.2)) σ H (fun x H1 => gName i x σ H1 D.nx) := h
  refine wpAny_bind (thn (dc_core (Qf := fun _ s' => SP X pins D .next s') hc hN I hi ok hg ht hk he hs h fun L C s' m H' I' q hn f => ?_) fun _ s' hq => wpAny_pure (wpAny_pure hq))
  show wpAny _ _ (assign (.Name y py) X.env (.ref L)) _ _ _
  refine wpAny_assign_Name (store_ok2 (v := V.ref L) I' hN hy (.inl hyl) rfl (fun s2 I2 ⟨a, sb, ha⟩ => ?_) (.inr hyl))
  obtain ⟨f0, f1, f2, f3, f4, f5⟩ := f
  have haC : C ≠ a := by
    rcases ha with z | z
    · rw [z]; exact f1
    · exact fun e => f4 y a z e.symm
  refine ⟨m, hn.sameBut sb haC, fun h3 sb3 => ?_⟩
  exact ⟨_, H', I2.turned (t' := s2.toks) (fun b o hb e => (sb3.2 b hb).trans e) f0 f1 f3 f4 f5, q⟩
theorem sw_trueD {kx vx : Expr} {gs : List Comprehension} {scope : Scope} {pos py : Pos} {y : Str} {l : Nat} {env : Env} (hk : env.scope.kind = .function) (hy : env.scope.names.lookup y = some .local) (hl : (py.line == pos.line) = true)
    (ha : (scope.names.any fun (n, k) => n == y && (k == .local || k == .cell)) = false) : swapsWith (.DictComp kx vx gs scope pos) (some (.Name y py)) l env = pure true := by
  have ky : env.kindOf y = some .local := hy
  have hb : env.blockKind = .function := by unfold Env.blockKind; rw [hk]; rfl
  unfold swapsWith
  show pure (env.blockKind == .function && env.kindOf y == some .local && py.line == (Expr.DictComp kx vx gs scope pos).pos.line && !(scope.names.any fun (n, k) => n == y && (k == .local || k == .cell))) = pure true
  rw [hb, ky, show (py.line == (Expr.DictComp kx vx gs scope pos).pos.line) = true from hl, ha]
  rfl
end
/-- a comprehension over what is walked: Pv by the turn and the heap (the new dict at D within) -/
theorem dc_it {J : It} {n : Nat} {G : Hp → Prop} {Y : Nat → Hp → V → Hp → Prop} (w : Walk J n G Y) {g : TG} {tt : TT} {tk tv : TE} {vs : List Nat} {σ : L2.St} {H1 : Hp} {D : Addr} {Qd : Hp → Prop} (Pv : Nat → Hp → Prop) (h0 : Pv 0 (upd H1 D (.dK []))) (hG : ∀ i H, i ≤ n → Pv i H → G H)
    (hs : ∀ i x H H', i < n → Pv i H → Y i H x H' → g x (wipe σ vs) H' fun σ2 H2 => wipe σ2 vs = wipe σ vs ∧ tt σ2 H2 fun b H3 =>
      if b = true then tk σ2 H3 fun y H4 => tv σ2 H4 fun z H5 => ∃ kvs k, y = kV k ∧ H5 D = some (.dK kvs) ∧ kvs.length < sizeLine ∧ Pv (i + 1) (upd H5 D (.dK (putK kvs k z))) else Pv (i + 1) H3) (hd : ∀ H, Pv n H → Qd H) :
    ∃ W : Nat → Nat → Hp → Prop, (∃ m, W 0 m (upd H1 D (.dK []))) ∧ ∀ i m H, W i m H →
      (J.stop i H ∧ Qd H) ∨ (J.go i H ∧ ∃ Nx : Hp → Prop, (∀ H', Nx H' → ∃ m', m' < m ∧ W (i + 1) m' H') ∧ ∀ x H', J.yld i H x H' → g x (wipe σ vs) H' fun σ2 H2 => wipe σ2 vs = wipe σ vs ∧ tt σ2 H2 fun b H3 =>
        if b = true then tk σ2 H3 fun y H4 => tv σ2 H4 fun z H5 => ∃ kvs k, y = kV k ∧ H5 D = some (.dK kvs) ∧ kvs.length < sizeLine ∧ Nx (upd H5 D (.dK (putK kvs k z))) else Nx H3) := by
  refine ⟨fun i m H => m = n - i ∧ i ≤ n ∧ Pv i H, ⟨n, by simp, Nat.zero_le _, h0⟩, ?_⟩
  rintro i m H ⟨rfl, hi, p⟩
  have q := hG i H hi p
  by_cases hlt : i < n
  · exact .inr ⟨w.goes i H hlt q, Pv (i + 1), fun H' p' => ⟨n - (i + 1), by omega, rfl, hlt, p'⟩, fun x H' y => hs i x H H' hlt p (w.yields i H x H' hlt q y)⟩
  · have e : i = n := by omega
    subst e
    exact .inl ⟨w.stops H q, hd H p⟩
omit [Me] in
def compDD (sl0 : List (Option Slo)) (h : Dt → Sta → Option Sta) (t : DM Bool) (ek ev : DM Dt) : List Dt → List Key × List Dt → List Dt → Option ((List Key × List Dt) × List Dt)
  | [], acc, bg => some (acc, bg)
  | d :: r, acc, bg => (h d ⟨sl0, bg⟩).bind fun s1 => (t s1).bind fun p => if p.1 = true then (ek p.2).bind fun q => (ev q.2).bind fun z => (keyOf q.1).bind fun k =>
      if acc.1.length < 100000 then compDD sl0 h t ek ev r (putKs acc.1 k, putLs acc.1 acc.2 k z.1) z.2.bag else none
    else compDD sl0 h t ek ev r acc p.2.bag
omit [Me] in
def kOwnDC (i : Nat) (is : List Nat) (f : DM (List Dt)) (h : Dt → Sta → Option Sta) (t : DM Bool) (ek ev : DM Dt) : DMs := fun s => (f s).bind fun p =>
  (compDD (wipeS (p.2.sl.map datOnly) is) h t ek ev p.1 ([], []) p.2.bag).bind fun z => some (.nx, { sl := p.2.sl.set i (some (.mut (some z.1.1) z.1.2)), bag := z.2 })
omit [Tabs] [Me] in
theorem nx_dK {p : Addr} {kvs : List (Key × V)} : Nx p (.dK kvs) := by
  refine ⟨(fun ps z => by cases z), fun q z => ?_⟩
  have z' : HO.dK kvs = HO.ext _ := z
  cases z'
section
variable {X : Cx}
theorem ds_ownDC {i : Nat} {y : Str} {py : Pos} {kx vx tg iter : Expr} {ifs : List Expr} {scope : Scope} {own : List (Str × Nat)} {pos spos : Pos} {is : List Nat} {f : DM (List Dt)} {h : Dt → Sta → Option Sta} {ft : DM Bool} {fk fv : DM Dt} (hc : X.calm = true) (hN : X.N.Nodup) (hy : X.N[i]? = some y) (hyl : X.env.scope.names.lookup y = some .local)
    (hsw : swapsWith (.DictComp kx vx [⟨tg, iter, ifs, 0⟩] scope pos) (some (.Name y py)) spos.line X.env = pure true) (hi : DI X tg iter f) (ok : BlkOk X.N X.env.scope scope own)
    (hg : ∀ (s : Shared) (H : Hp) (C : Addr) (cl : List (Str × Addr)) (fp : List Addr), DG (X.blk s H scope (compEnvC scope cl C X.env) fp) tg is h) (ht : ∀ (s : Shared) (H : Hp) (C : Addr) (cl : List (Str × Addr)) (fp : List Addr), DTs (X.blk s H scope (compEnvC scope cl C X.env) fp) ifs ft)
    (hk : ∀ (s : Shared) (H : Hp) (C : Addr) (cl : List (Str × Addr)) (fp : List Addr), DE (X.blk s H scope (compEnvC scope cl C X.env) fp) kx fk)
    (he : ∀ (s : Shared) (H : Hp) (C : Addr) (cl : List (Str × Addr)) (fp : List Addr), DE (X.blk s H scope (compEnvC scope cl C X.env) fp) vx fv) (hv : ∀ j ∈ is, j ∈ own.map (·.2)) (hs : ∀ x, foldedSetIterable iter X.env x = pure x := by intro _; rfl) :
    DS X (.Assign [.Name y py] (.DictComp kx vx [⟨tg, iter, ifs, 0⟩] scope pos) spos) (kOwnDC i (own.map (·.2)) f h ft fk fv) := by
  obtain ⟨wi, p1, o1⟩ := hi
  refine ⟨_, ps_setDc (g := gOf X.K is h) (tt := ttOf X.K ft) (tk := tOf X.K fk) (tv := tOf X.K fv) hc hN hy hyl hsw p1 ok (fun s H C cl fp => (hg s H C cl fp).pg) (fun s H C cl fp => ht s H C cl fp) (fun s H C cl fp => (hk s H C cl fp).pe) (fun s H C cl fp => (he s H C cl fp).pe) hs, fun β P σ H G s r s' R e D k => ?_⟩
  unfold kOwnDC at e
  obtain ⟨⟨l, s1⟩, e1, e0⟩ := Option.bind_eq_some_iff.mp e
  clear e
  obtain ⟨⟨⟨kz, lz⟩, bgF⟩, e2, e3⟩ := Option.bind_eq_some_iff.mp e0
  clear e0
  cases e3
  refine o1 β P σ H G s l s1 R e1 _ fun J H1 G1 Gd Y x1 R1 wk hG hY => ?_
  intro D' hD
  have hn : ∀ (i : Nat) (x : Slo), (wipeS (s1.sl.map datOnly) (own.map (·.2)))[i]? = some (some x) → ∃ d, x = .dat d := fun i x z => by
    obtain ⟨_, d', e3, _⟩ := hid_get z
    exact ⟨d', e3⟩
  have R0 := rel_hideO R1 hD (nx_dK (p := D') (kvs := [])) (own.map (·.2))
  refine dc_it wk (fun i H2 => ∃ G2 bg ks ds vs, Ext G1 G2 ∧ Rel X.K β (upd (shut β H1 G1) D' (.dK (ks.zip vs))) (wipe σ (own.map (·.2))) H2 G2 ⟨wipeS (s1.sl.map datOnly) (own.map (·.2)), bg⟩ ∧ ks.length = vs.length ∧ IsL X.K β G2 ds vs ∧
    compDD (wipeS (s1.sl.map datOnly) (own.map (·.2))) h ft fk fv (l.drop i) (ks, ds) bg = some ((kz, lz), bgF)) ⟨G1, s1.bag, [], [], [], Ext.refl G1, R0, rfl, isl_nil.mpr rfl, e2⟩ ?_ ?_ ?_
  · rintro i H2 hi' ⟨G2, bg, ks, ds, vs, x2, R2, _⟩
    exact hG H2 G2 x2 R2.gh
  · rintro i x H2 H3 hi' ⟨G2, bg, ks, ds, vs, x2, R2, hkl, ia, e3⟩ yy
    have hd : l[i]? = some l[i] := List.getElem?_eq_getElem hi'
    obtain ⟨G3, x3, R3, i3⟩ := hY i l[i] H2 x H3 _ _ G2 _ hd x2 R2 yy
    rw [List.drop_eq_getElem_cons hi'] at e3
    unfold compDD at e3
    obtain ⟨s3, e5, e4⟩ := Option.bind_eq_some_iff.mp e3
    clear e3
    obtain ⟨⟨b, s4⟩, e6, e3⟩ := Option.bind_eq_some_iff.mp e4
    clear e4
    refine gOf_ok β _ _ H3 G3 _ l[i] x s3 R3 i3 e5 _ fun σ4 H4 G4 x4 R4 c4 l4 => ⟨wipe_same l4 fun j hj => c4 j fun z => hj (hv j z), ?_⟩
    refine ttOf_ok β _ _ H4 G4 s3 b s4 R4 e6 _ fun H5 G5 x5 R5 => ?_
    cases b with
    | true =>
      rw [if_pos rfl] at e3 ⊢
      obtain ⟨⟨dk, s5⟩, e7, e8⟩ := Option.bind_eq_some_iff.mp e3
      clear e3
      obtain ⟨⟨dv, s6⟩, e9, e10⟩ := Option.bind_eq_some_iff.mp e8
      clear e8
      obtain ⟨kk, e11, e12⟩ := Option.bind_eq_some_iff.mp e10
      clear e10
      split at e12
      · rename_i hlen
        refine tOf_ok β _ _ H5 G5 s4 dk s5 R5 e7 _ fun u H6 G6 x6 R6 i6 => ?_
        refine tOf_ok β _ _ H6 G6 s5 dv s6 R6 e9 _ fun v H7 G7 x7 R7 i7 => ?_
        have xx : Ext G2 G7 := (((x3.trans x4).trans x5).trans x6).trans x7
        refine ⟨ks.zip vs, kk, keyOf_ok i6 e11, (R7.pr D' _ upd_same).1, ?_, G7, s6.bag, putKs ks kk, putLs ks ds kk dv, putLs ks vs kk v, x2.trans xx, ?_, putKs_len hkl, isl_put i7 (IsL.mono xx _ _ ia), e12⟩
        · rw [List.length_zip, ← hkl, Nat.min_self]
          exact Nat.lt_trans hlen (by decide)
        · rw [putK_zip hkl]
          exact rel_acc R7 R2 xx hn nx_dK
      · cases e12
    | false =>
      rw [if_neg Bool.false_ne_true] at e3 ⊢
      have xx : Ext G2 G5 := (x3.trans x4).trans x5
      exact ⟨G5, s4.bag, ks, ds, vs, x2.trans xx, rel_skip R5 R2 xx hn, hkl, IsL.mono xx _ _ ia, e3⟩
  · rintro H2 ⟨G2, bg, ks, ds, vs, x2, R2, hkl, ia, e3⟩
    rw [List.drop_length] at e3
    cases e3
    obtain ⟨Rb, q1, q2, q3, q4, q5⟩ := rel_backO R1 hD R2 x2
    exact k _ H2 G2 (x1.trans x2) (Rb.adopt (kn := some kz) q1 q2 q3 q4 q5 ia)
end
end DL
set_option maxHeartbeats 4000000
namespace DB
open PySem PySem.Spec PyProof.Rows L2 DL DI
end DB
set_option maxHeartbeats 4000000
namespace DL
open PySem PySem.Spec PyProof.Rows L2
variable [Tabs] [Me]
section
variable {X : Cx} {o e : Expr} {f : DM Dt} {pos : Pos}
theorem dt_inO (i : Nat) (ho : PE X o (tVar i)) (hu : X.A.units + 1 < cLine) (he : DE X e f) (hm : behindInMarks .In o = false := by rfl) : DT X (.Compare e [.In] [o] pos) (mB (mInO i f)) := by
  obtain ⟨t, p, ok⟩ := he
  exact ⟨_, pt_cmp (pc_din hu p ho) hm, tt_of (te_inO ok)⟩
end
omit [Me] in
def mLenOwn (i : Nat) : DM Dt := fun s => match s.sl[i]? with
  | some (some (.mut none l)) => some (.int (l.length : Nat), s)
  | _ => none
theorem de_lenOwn {X : Cx} {e : Expr} {p pos : Pos} (i : Nat) (h : PE X e (tVar i)) (hg : Gl X "len") (hm : X.mg "len" = none)
    (hs : starEach [e] X.env = (false, eval e X.env) :: starEach [] X.env := by rfl) (hpl : (backTo pos (starEach [] X.env)).any (·.1) = false := by rfl) : DE X (.Call (.Name "len" p) [e] [] pos) (mLenOwn i) := by
  refine ⟨_, pe_callB call_len hg hm (by decide +kernel) (pa_cons h pa_nil hs) (by decide) (by decide) hs hpl, fun β P σ H G s b s' R eo Q q => ?_⟩
  unfold mLenOwn at eo
  split at eo
  · rename_i l hi
    cases eo
    obtain ⟨p, vs, h1, h2, h3, h4, h5, h6⟩ := R.own i l none hi
    exact ⟨.ref p, h1, .ref p, vs.length, rfl, .inl ⟨vs, .inl (.inl h2), rfl⟩, q _ H G (Ext.refl G) R (is_int.mpr (by rw [h6.len]))⟩
  · cases eo
theorem kp_lenOwn {i j : Nat} : Kp i (mLenOwn j) := fun s d s' h => by
  unfold mLenOwn at h
  split at h <;> first | (cases h; rfl) | cases h
omit [Me] in
def kParOwn (i j : Nat) (f : DM Dt) : DMs := fun s => (f s).bind fun p => some (.nx, { p.2 with sl := (p.2.sl.set i (some (.dat p.1))).set j (some (.own [])) })
end DL
namespace DI
open PySem PySem.Spec PyProof.Rows L2 DL
theorem binds_all {K : PySem.W.Frag} {x qual : Str} {params : Arguments} {body : List Stmt} {scope : Scope} {dvs : List V} {f : Addr} {fd : FuncData} {ps : List Str} (F : FunD K x qual params body scope dvs [] f fd) (hd : dvs ≠ [])
    (h : ∀ (T : Addr) (kV doc pm : Value) (an : Option Addr) (cdv ct : Value) (us its : List Value), us.length = ps.length → its.length = dvs.length →
      ∃ k, bindArgs (PySem.W.fnOf x qual params body scope (.ref T) kV doc pm an cdv ct) ⟨us, []⟩ = seqItems? (.ref T) >>= k ∧ k (some its.toArray) = pure (ps.zip us)) : Binds K fd ps [] := by
  obtain ⟨oc, od, dV, kV, doc, pm, an, cdv, ct, osl, rfl, lk, hcd, hD, hK⟩ := F.ex
  rcases hD with ⟨e, _⟩ | ⟨_, T, o, its, m, rfl, lT, oT, rT⟩
  · exact absurd e hd
  · intro s us X hl
    rw [List.append_nil] at hl ⊢
    obtain ⟨k, e1, e2⟩ := h T kV doc pm an cdv ct us its hl rT.length.symm
    refine BindsTo.of_looks fun M => ?_
    rw [e1]
    exact looks_items X lT oT (PySem.W.Looks.of_pure e2)
end DI
namespace DL
open PySem PySem.Spec PyProof.Rows L2
variable [Tabs] [Me]
theorem kp_lst {i : Nat} {f : DM (List Dt)} (hf : Kp i f) : Kp i (mLst f) := fun s d s' h => by
  unfold mLst at h
  obtain ⟨⟨x, s1⟩, e1, h⟩ := Option.bind_eq_some_iff.mp h
  dsimp only at h
  split at h <;> first | (cases h; exact hf _ _ _ e1) | cases h
theorem kp_wtup {i : Nat} {f : DM Dt} (hf : Kp i f) : Kp i (wTup f) := fun s d s' h => by
  unfold wTup at h
  obtain ⟨⟨x, s1⟩, e1, h⟩ := Option.bind_eq_some_iff.mp h
  cases x <;> first | (cases h; exact hf _ _ _ e1) | cases h
theorem kp_nop {i : Nat} : Kp i mNoP := fun s d s' h => by cases h; rfl
theorem kp_part {i : Nat} {f : DM Dt} (hf : Kp i f) : Kp i (mPart f) := fun s d s' h => by
  unfold mPart at h
  obtain ⟨⟨x, s1⟩, e1, h⟩ := Option.bind_eq_some_iff.mp h
  cases x <;> first | (cases h; exact hf _ _ _ e1) | cases h
theorem kp_sl {i : Nat} {f : DM Dt} {g k : DM (Option Int)} (hf : Kp i f) (hg : Kp i g) (hk : Kp i k) : Kp i (mSl f g k) := fun s d s' h => by
  unfold mSl at h
  obtain ⟨⟨x, s1⟩, e1, h⟩ := Option.bind_eq_some_iff.mp h
  obtain ⟨⟨y, s2⟩, e2, h⟩ := Option.bind_eq_some_iff.mp h
  obtain ⟨⟨z, s3⟩, e3, h⟩ := Option.bind_eq_some_iff.mp h
  obtain ⟨u, e4, h⟩ := Option.bind_eq_some_iff.mp h
  cases h
  exact ((hk _ _ _ e3).trans (hg _ _ _ e2)).trans (hf _ _ _ e1)
end DL
namespace DT
open PySem PySem.Spec PyProof.Rows L2 DL
variable [DL.Tabs] [DL.Me]
theorem kp_tupOf {i : Nat} {f : DM Dt} (hf : Kp i f) : Kp i (mTupOf f) := fun s d s' h => by
  unfold mTupOf at h
  obtain ⟨⟨x, s1⟩, e1, h⟩ := Option.bind_eq_some_iff.mp h
  cases x <;> first | (cases h; exact hf _ _ _ e1) | cases h
end DT
set_option maxHeartbeats 4000000
namespace DL
open PySem PySem.Spec PyProof.Rows L2
variable [Tabs] [Me]
theorem ds_parOwnT {X : Cx} {i j : Nat} {x y : Str} {a : Expr} {f : DM Dt} {px py pt lp : Pos} {kt k2 pt2 pos} (hc : X.calm = true) (hN : X.N.Nodup) (hi : X.N[i]? = some x) (hj : X.N[j]? = some y)
    (hx : Loc X.env.scope x) (hfx : X.fn x = true ∨ X.env.scope.names.lookup x = some .local) (hy : Loc X.env.scope y) (hfy : X.fn y = true ∨ X.env.scope.names.lookup y = some .local) (ha : DE X a f)
    (hst : (assignEach [.Name x px, .Name y py] X.env).findIdx? (·.1) = none := by rfl) (hn : (assignEach [.Name x px, .Name y py] X.env).length = 2 := by rfl)
    (hs : swapsWithSole [.Tuple [.Name x px, .Name y py] kt pt] (.Tuple [a, .List [] lp] k2 pt2) pos.line X.env = pure false := by rfl)
    (hw : swappedStores [.Tuple [.Name x px, .Name y py] kt pt] (.Tuple [a, .List [] lp] k2 pt2) X.env = pure none := by rfl)
    (h1 : (assignEach [.Tuple [.Name x px, .Name y py] kt pt] X.env).map (·.2) = [assign (.Tuple [.Name x px, .Name y py] kt pt) X.env] := by rfl)
    (na : starEach [a, .List [] lp] X.env = (false, eval a X.env) :: starEach [.List [] lp] X.env := by rfl) (na2 : starEach [.List [] lp] X.env = (false, eval (.List [] lp) X.env) :: starEach [] X.env := by rfl) :
    DS X (.Assign [.Tuple [.Name x px, .Name y py] kt pt] (.Tuple [a, .List [] lp] k2 pt2) pos) (kParOwn i j f) := by
  obtain ⟨t, p, o⟩ := ha
  refine ⟨_, ps_asg (pe_tup (pa_cons p (pa_cons (pe_lst pa_nil) pa_nil na2) na)) (pg_tup hc (pgs_cons (pg_name (pos := px) hN hi hx hfx) (pgs_cons (pg_name (pos := py) hN hj hy hfy) pgs_nil)) hn hst) hs hw h1, fun β P σ H G s r s' R e D k => ?_⟩
  unfold kParOwn at e
  obtain ⟨⟨d, s1⟩, e1, e2⟩ := Option.bind_eq_some_iff.mp e
  cases e2
  refine o β P σ H G s d s1 R e1 _ fun v H1 G1 x1 R1 i1 => ?_
  refine ⟨le_line (by decide), fun q hq => ?_⟩
  refine ⟨le_line (by show 2 ≤ 1000; decide), fun b hb => ?_⟩
  have R2 := DI.rel_grow (o := .lst []) R1 hq
  have R3 := DI.rel_grow (o := .tup [v, .ref q]) R2 hb
  have nq : q ≠ b := fun z => by
    rw [z, upd_same] at hb
    cases hb
  have hq3 : (upd (upd H1 q (.lst [])) b (.tup [v, .ref q])) q = some (.lst []) := by rw [upd_ne nq, upd_same]
  refine ⟨b, [v, .ref q], rfl, SqT.of upd_same, rfl, v, [.ref q], rfl, .ref q, [], rfl, rfl, ?_⟩
  refine k _ _ G1 x1 ((R3.set i1).adopt (kn := none) (vs := []) hq3 (R1.free hq) ?_ ?_ ?_ (isl_nil.mpr rfl))
  · cases e : P q with
    | none => rfl
    | some o => have := (R1.pr q o e).1; rw [hq] at this; cases this
  · intro z
    obtain ⟨us, b1, _⟩ := R1.bag
    rw [← z, hq] at b1
    cases b1
  · intro m l kk hm z
    have hm' : s1.sl[m]? = some (some (.mut kk l)) := by
      have h := hm
      rw [get_set] at h
      split at h
      · cases h
      · exact h
    have hz : σ[m]? = some (some (.ref q)) := by
      rw [get_set] at z hm
      rw [R1.len] at z
      split at hm
      · cases hm
      · rename_i c
        rw [if_neg c] at z
        exact z
    obtain ⟨p', us, g1, g2, _⟩ := R1.own m l kk hm'
    rw [hz] at g1
    cases g1
    rw [hq] at g2
    cases g2
end DL
namespace DX
open PySem PySem.Spec PyProof.Rows L2 DL
end DX
namespace DB
open PySem PySem.Spec PyProof.Rows L2 DL DI
def kitsB (K : PySem.W.Frag) (C : Addr) : Bool := (["int", "str", "bool", "tuple", "list", "dict"] : List String).all fun T => PySem.W.kitOne K (.ref C) (.type T) == some false
theorem insC_of {K : PySem.W.Frag} {c : Str} {C : Addr} (h1 : PySem.W.nsIn K mainGlobals c = some (some (.ref C))) (h2 : PySem.W.plainGet K C Str.empty = true) (h3 : PySem.W.hasDictIn K C = true) (h4 : PySem.W.plainOver K C = true)
    (h5 : PySem.W.findIn K (.ref C) "__setattr__" = some (some (.builtin "object.__setattr__"))) (h6 : PySem.W.findIn K (.ref C) "__class__" = some (some (.builtin "object.__class__")))
    (h7 : PySem.W.specialIn K (.builtin "object.__class__") "__get__" = some (some (.builtin "getset_descriptor.__get__"))) (h8 : PySem.W.takesIn K (.builtin "object.__class__") = some true) (h9 : PySem.W.mroIn K C (.type "object") = some true) (h : kitsB K C = true) : InsC K c C :=
  ⟨h1, ⟨h2, h3, h4, h5⟩, h6, h7, h8, h9, fun T hT => eq_of_beq (List.all_eq_true.mp h T hT)⟩
theorem nof_of {K : PySem.W.Frag} {c f : Str} {C : Addr} (h1 : PySem.W.nsIn K mainGlobals c = some (some (.ref C))) (h : PySem.W.findIn K (.ref C) f = some none) : NoF K [c] f := fun c' hc C' e => by
  rw [List.mem_singleton.mp hc, h1] at e
  cases e
  exact h
theorem fund_mk {K : PySem.W.Frag} {x qual : Str} {st : Stmt} {f T : Addr} {oc oT : Value} {od an oTd : Option Addr} {osl slT : Array (Option Value)} {kV doc pm cdv ct : Value} {e : Addr} {n : Nat}
    (l : K.lookup f = some ⟨oc, od, .func (PySem.W.fnOf x qual (defArgs st) (defBody st) (defScope st) (.ref T) kV doc pm an cdv ct), osl⟩) (c : PySem.W.codeIn K cdv qual = true) (k : PySem.W.keepIn K (.ref f) = true) (t : K.lookup T = some ⟨oT, oTd, .seq #[.ref e] n, slT⟩) :
    FunD K x qual (defArgs st) (defBody st) (defScope st) [V.ref e] [] f (PySem.W.fnOf x qual (defArgs st) (defBody st) (defScope st) (.ref T) kV doc pm an cdv ct) :=
  ⟨⟨oc, od, .ref T, kV, doc, pm, an, cdv, ct, osl, rfl, l, c, .inr ⟨by simp, T, _, [.ref e], n, rfl, t, rfl, .cons rfl .nil⟩, .inl rfl⟩, k⟩
end DB
set_option maxHeartbeats 4000000
namespace GZ
open PySem PySem.Spec PyProof.Rows GenW L2
structure SleptZ (Z : List Addr) (S : Addr) (v : Value) (s s' : Shared) : Prop where
  os : s'.os = s.os
  bare : AllBare s'.gens
  keep : ∀ b o, b ≠ S → b ∉ Z → s.heap.get? b = some o → s'.heap.get? b = some o
  own : ∀ acc c, s.heap.get? S = some (lstObj acc c) → ∃ c', s'.heap.get? S = some (lstObj (acc.push v) c')
  there : ∀ z ∈ Z, ∃ o, s'.heap.get? z = some o ∧ ∀ v, o.data ≠ .cell v
/-- running, woken last at s₀ -/
def GIZ (X : Cx) (Z : List Addr) (S : Addr) (ip : List (Addr × Obj)) (ys : List V) (σ : L2.St) (H : Hp) (s₀ s : Shared) : Prop :=
  ∃ (acc : Array Value) (c : Nat), (∀ z ∈ Z, ∃ o, s₀.heap.get? z = some o) ∧ Vals ys acc.toList ∧ Inv X ((S, lstObj acc c) :: (pinsAt Z s₀.heap ++ ip)) σ H s
section
variable {X : Cx} {Z : List Addr} {S : Addr} {ip : List (Addr × Obj)} {ys : List V} {σ : L2.St} {H : Hp} {s₀ s s' : Shared}
theorem GIZ.at (h : GIZ X Z S ip ys σ H s₀ s) : H S = none ∧ S ≠ X.env.locals ∧ S ∉ X.fs ∧ (∃ (acc : Array Value) (c : Nat), Vals ys acc.toList ∧ s.heap.get? S = some (lstObj acc c)) ∧ ∀ z ∈ Z, H z = none ∧ z ≠ X.env.locals ∧ z ∉ X.fs ∧ s.heap.get? z = s₀.heap.get? z := by
  obtain ⟨acc, c, hz1, r, I⟩ := h
  obtain ⟨h1, h2, h3, h4, _⟩ := I.pin (S, lstObj acc c) (List.mem_append_right _ List.mem_cons_self)
  refine ⟨h2, h3, h4, ⟨acc, c, r, h1⟩, fun z hz => ?_⟩
  obtain ⟨o, ho⟩ := hz1 z hz
  obtain ⟨g1, g2, g3, g4, _⟩ := I.pin (z, o) (List.mem_append_right _ (List.mem_cons_of_mem _ (List.mem_append_left _ (mem_pinsAt hz ho))))
  exact ⟨g2, g3, g4, g1.trans ho.symm⟩
theorem GIZ.base (h : GIZ X Z S ip ys σ H s₀ s) : Inv X ip σ H s := by
  obtain ⟨acc, c, hz1, r, I⟩ := h
  exact I.pins_of fun p hp => I.pin p (List.mem_append_right _ (List.mem_cons_of_mem _ (List.mem_append_right _ hp)))
end
end GZ
set_option maxHeartbeats 4000000
namespace GZ
open PySem PySem.Spec PyProof.Rows GenW L2
end GZ
set_option maxHeartbeats 4000000
namespace GZ
open PySem PySem.Spec PyProof.Rows GenW L2
/-- the end, or an exception leaves it; the walker's objects stand as when it was woken -/
def REndZ (P : Program) (w : World) (outer : List Env) (H : Hp) (s : Shared) (Z : List Addr) (S a : Addr) (g : Nat) (Q : List V → Hp → Prop) (E : XK) : GenEnd := fun n s₀ r s1 =>
  ((r = .ok (.ret .none) ∨ r = .ok .next) ∧ ∃ H' ys acc c, (s1.os = s.os ∧ AllBare s1.gens ∧ Un (frs outer) [] H H' s.heap s1.heap ∧ HOk P w H' s1.heap ∧ H' S = none ∧ s1.heap.get? S = some (lstObj acc c) ∧ Vals ys acc.toList ∧ ys.length ≤ sizeLine ∧ Q ys H') ∧ ∀ z ∈ Z, H' z = none ∧ s1.heap.get? z = s₀.heap.get? z) ∨
  ∃ e, r = .error e ∧ CX P w outer H s E e s1 ∧ s1.heap.IsGen a g
def YItemZ (s : Shared) (Z : List Addr) (S a : Addr) (g : Nat) : Protocol := fun n s₀ v s1 kap =>
  (s1.os = s.os ∧ AllBare s1.gens ∧ s1.heap.NoLimit ∧ s1.heap.IsGen a g ∧ (∃ (acc : Array Value) (c : Nat), s1.heap.get? S = some (lstObj acc c) ∧ n + 1 + acc.size = sizeLine) ∧ (∀ z ∈ Z, s1.heap.get? z = s₀.heap.get? z)) ∧ ∀ s', SleptZ Z S v s1 s' → kap (.send .none) s'
/-- what a call gives: a generator that has not begun; whatever objects its walker keeps beside the list -/
def GMadeZ (P : Program) (w : World) (k : Nat) (outer : List Env) (H : Hp) (s : Shared) (Q : List V → Hp → Prop) (E : XK) (u : Value) (s' : Shared) : Prop :=
  ∃ (a : Addr) (g : Nat) (c : Code), (u = .ref a ∧ s.heap.objs.size ≤ a ∧ a < s'.heap.objs.size ∧ s'.heap.IsGen a g ∧ s'.gens[g]? = some (.fresh c) ∧ s'.os = s.os ∧ AllBare s'.gens ∧ s'.heap.NoLimit ∧ (∀ b o, s.heap.get? b = some o → s'.heap.get? b = some o)) ∧
    ∀ (A : Around) (Z : List Addr) (S : Addr) (s2 : Shared), Room k A → A.frames = some outer → s'.heap.objs.size ≤ S → (∀ z ∈ Z, z ≠ S ∧ s'.heap.objs.size ≤ z ∧ ∃ o, s2.heap.get? z = some o ∧ ∀ v, o.data ≠ .cell v) →
      (∀ b o, s'.heap.get? b = some o → s2.heap.get? b = some o) → (∃ c, s2.heap.get? S = some (lstObj #[] c)) → s2.os = s.os → AllBare s2.gens →
      Seg (model P w) A (REndZ P w outer H s Z S a g Q E) (YItemZ s Z S a g) sizeLine s2 c ((model P w).den c) [] s2
structure GFnZ (P : Program) (w : World) (K : PySem.W.Frag) (mg : Str → Option Value) (base : Heap) (k : Nat) (f : Addr) (fd : FuncData) (ps : List Str) (sp : SpG) : Prop where
  len : ∀ vs H Q E, sp vs H Q E → vs.length = ps.length
  run : ∀ (A : Around) (outer : List Env) (s : Shared) (H : Hp) (args : Args) (us : List Value) (vs : List V) (Q : List V → Hp → Prop) (E : XK), Room k A → Env0 P w K mg base A outer s H → BindsTo s fd args (ps.zip us) → Vals vs us → sp vs H Q E →
    codeAny (model P w) A (.call (.ref f) args) (fun r s' => match r with | .ok (.ret u) => GMadeZ P w k outer H s Q E u s' | _ => False) s
/-- walked by list(..): nothing else is kept -/
theorem GMadeZ.made {P : Program} {w : World} {k : Nat} {outer : List Env} {H : Hp} {s s' : Shared} {Q : List V → Hp → Prop} {E : XK} {u : Value} (h : GMadeZ P w k outer H s Q E u s') : GMade P w k outer H s [] Q E u s' := by
  obtain ⟨a, g, c, ⟨h1, h2, h3, h4, h5, h6, h7, h8, h9⟩, run⟩ := h
  refine ⟨a, g, c, h1, h2, h3, h4, h5, h6, h7, h8, h9, fun A S s2 r1 r2 r3 r4 r5 r6 r7 => ?_⟩
  refine seg_imp (fun n s₀ r s1 hR => ?_) (fun n s₀ v s1 kap kap' hkk hY => ?_) sizeLine (run A [] S s2 r1 r2 r3 (fun z hz => nomatch hz) r4 r5 r6 r7)
  · rcases hR with ⟨q1, H', ys, acc, cc, q2, _⟩ | q
    · exact .inl ⟨q1, H', ys, acc, cc, q2⟩
    · exact .inr q
  · obtain ⟨⟨y1, y2, y3, y4, y5, _⟩, y6⟩ := hY
    exact ⟨y1, y2, y3, y4, y5, fun s'' z => hkk _ _ (y6 s'' ⟨z.os, z.bare, fun b o n _ e => z.keep b o n e, z.own, fun z hz => nomatch hz⟩)⟩
theorem GFnZ.fn {P : Program} {w : World} {K : PySem.W.Frag} {mg : Str → Option Value} {base : Heap} {k : Nat} {f : Addr} {fd : FuncData} {ps : List Str} {sp : SpG} (h : GFnZ P w K mg base k f fd ps sp) : GFn P w K mg base k f fd ps sp :=
  ⟨h.len, fun A outer s H args us vs Q E hr e0 hb r hsp => codeAny_mono (h.run A outer s H args us vs Q E hr e0 hb r hsp) fun r s' hq => by
    cases r with
    | error e => exact hq
    | ok fl =>
      cases fl with
      | ret u => exact hq.made
      | next => exact hq
      | brk => exact hq
      | cont => exact hq⟩
end GZ
set_option maxHeartbeats 4000000
namespace GZ
open PySem PySem.Spec PyProof.Rows GenW L2
end GZ
set_option maxHeartbeats 4000000
namespace DL
open PySem PySem.Spec PyProof.Rows L2 GZ
end DL
set_option maxHeartbeats 4000000
namespace DL
open PySem PySem.Spec PyProof.Rows L2 GZ
end DL
set_option maxHeartbeats 4000000
namespace DL
open PySem PySem.Spec PyProof.Rows L2 GZ
end DL
set_option maxHeartbeats 4000000
namespace DL
open PySem PySem.Spec PyProof.Rows L2 GZ
end DL
set_option maxHeartbeats 4000000
namespace DL
open PySem PySem.Spec PyProof.Rows L2 GZ
end DL
set_option maxHeartbeats 4000000
namespace DF
open PySem PySem.Spec PyProof.Rows L2 DL DI
variable [DL.Tabs] [DL.Me]
/-- at p there is a list that is not data, and that no slot holds -/
structure New (β : Addr) (P : Hp) (σ : L2.St) (H G : Hp) (s : Sta) (p : Addr) (us : List V) : Prop where
  at_ : H p = some (.lst us)
  g : G p = none
  pp : P p = none
  nb : p ≠ β
  no : ∀ (i : Nat) (l : List Dt) (kk : Option (List Key)), s.sl[i]? = some (some (Slo.mut kk l)) → σ[i]? ≠ some (some (V.ref p))
section
variable {K : PySem.W.Frag} {β : Addr} {P : Hp} {σ : L2.St} {H G : Hp} {s : Sta} {p : Addr} {us : List V}
theorem p_none (R : Rel K β P σ H G s) (h : H p = none) : P p = none := by
  cases e : P p with
  | none => rfl
  | some o => have := (R.pr p o e).1; rw [h] at this; cases this
theorem b_ne (R : Rel K β P σ H G s) (h : H p = none) : p ≠ β := fun z => by
  obtain ⟨vs, b1, _⟩ := R.bag
  rw [← z, h] at b1
  cases b1
/-- a list made now -/
theorem New.made (R : Rel K β P σ H G s) (h : H p = none) : New β P σ (upd H p (.lst us)) G s p us where
  at_ := upd_same
  g := R.free h
  pp := p_none R h
  nb := b_ne R h
  no := fun i l kk e z => by
    obtain ⟨q, vs, h1, h2, _⟩ := R.own i l _ e
    rw [h1] at z
    cases z
    rw [h] at h2
    cases h2
theorem New.noObj (N : New β P σ H G s p us) (R : Rel K β P σ H G s) (i : Nat) (c : Str) (ks : List Str) (l : List Dt) (e : s.sl[i]? = some (some (Slo.obj c ks l))) : σ[i]? ≠ some (some (V.ref p)) := fun z => by
  obtain ⟨q, C, dx, vs, a1, _, a2, _⟩ := R.obj i c ks l e
  rw [a1] at z
  cases z
  rw [N.at_] at a2
  cases a2
/-- it is data from now on -/
theorem New.frz (N : New β P σ H G s p us) (R : Rel K β P σ H G s) : Rel K β P σ H (upd G p (.lst us)) s :=
  rel_frz R N.at_ N.g N.pp N.nb N.no (N.noObj R) (fun ps z => by cases z)
end
def TEokN (K : PySem.W.Frag) (t : TE) (f : DM Dt) : Prop := ∀ (β : Addr) (P : Hp) (σ : L2.St) (H G : Hp) (s : Sta) (d : Dt) (s' : Sta), Rel K β P σ H G s → f s = some (d, s') →
  ∀ Q : VK, (∀ l p us H' G', d = .lst l → Ext G G' → Rel K β P σ H' G' s' → New β P σ H' G' s' p us → IsL K β G' l us → Q (.ref p) H') → t σ H Q
theorem TEokN.ok {K : PySem.W.Frag} {t : TE} {f : DM Dt} (h : TEokN K t f) : TEok K t f := fun β P σ H G s d s' R e Q q => h β P σ H G s d s' R e Q fun l p us H' G' ed x R' N i => by
  subst ed
  exact q _ H' _ (x.trans (Ext.new N.g)) (N.frz R') (is_lst.mpr ⟨p, us, rfl, upd_same, IsL.mono (Ext.new N.g) _ _ i⟩)
end DF
set_option maxHeartbeats 4000000
namespace DF
open PySem PySem.Spec PyProof.Rows L2 DL DI
variable [DL.Tabs] [DL.Me]
theorem New.own {K : PySem.W.Frag} {β : Addr} {P : Hp} {σ : L2.St} {H G : Hp} {s : Sta} {p : Addr} {us : List V} (N : New β P σ H G s p us) (R : Rel K β P σ H G s) {i : Nat} {l : List Dt} (h : IsL K β G l us) : Rel K β P (σ.set i (some (.ref p))) H G { s with sl := s.sl.set i (some (.own l)) } where
  len := by simp [R.len]
  gh := R.gh
  pr := R.pr
  pb := R.pb
  bag := R.bag
  dat := fun j d e => by
    rw [get_set] at e ⊢
    by_cases c : i = j ∧ i < s.sl.length
    · rw [if_pos c] at e; cases e
    · rw [if_neg c] at e
      rw [if_neg (by rw [R.len]; exact c)]
      exact R.dat j d e
  own := fun j m kk e => by
    rw [get_set] at e ⊢
    by_cases c : i = j ∧ i < s.sl.length
    · rw [if_pos c] at e
      cases e
      rw [if_pos (by rw [R.len]; exact c)]
      exact ⟨p, us, rfl, N.at_, N.g, N.pp, N.nb, h⟩
    · rw [if_neg c] at e
      rw [if_neg (by rw [R.len]; exact c)]
      exact R.own j m kk e
  dj := fun j k l1 m kl km a q1 q2 r1 r2 => by
    rw [get_set] at q1 q2 r1 r2
    by_cases c : i = j ∧ i < s.sl.length
    · by_cases c2 : i = k ∧ i < s.sl.length
      · exact c.1.symm.trans c2.1
      · rw [if_neg c2] at q2
        rw [if_pos (by rw [R.len]; exact c)] at r1
        rw [if_neg (by rw [R.len]; exact c2)] at r2
        cases r1
        exact absurd r2 (N.no k m km q2)
    · by_cases c2 : i = k ∧ i < s.sl.length
      · rw [if_neg c] at q1
        rw [if_neg (by rw [R.len]; exact c)] at r1
        rw [if_pos (by rw [R.len]; exact c2)] at r2
        cases r2
        exact absurd r1 (N.no j l1 kl q1)
      · rw [if_neg c] at q1
        rw [if_neg c2] at q2
        rw [if_neg (by rw [R.len]; exact c)] at r1
        rw [if_neg (by rw [R.len]; exact c2)] at r2
        exact R.dj j k l1 m _ _ a q1 q2 r1 r2
  obj := fun j c1 ks l1 e => by
    rw [get_set] at e
    by_cases c : i = j ∧ i < s.sl.length
    · rw [if_pos c] at e; cases e
    · rw [if_neg c] at e
      obtain ⟨q, C, dx, vs, h1, h0⟩ := R.obj j c1 ks l1 e
      exact ⟨q, C, dx, vs, by rw [get_set, if_neg (by rw [R.len]; exact c)]; exact h1, h0⟩
  oj := fun j k c1 ks1 l1 c2 ks2 l2 q1 q2 => by
    rw [get_set] at q1 q2
    by_cases c : i = j ∧ i < s.sl.length
    · rw [if_pos c] at q1; cases q1
    · by_cases c2 : i = k ∧ i < s.sl.length
      · rw [if_pos c2] at q2; cases q2
      · rw [if_neg c] at q1
        rw [if_neg c2] at q2
        exact R.oj j k _ _ _ _ _ _ q1 q2
  fns := fun j l1 q e => by
    rw [get_set] at e
    by_cases c : i = j ∧ i < s.sl.length
    · rw [if_pos c] at e; cases e
    · rw [if_neg c] at e
      obtain ⟨L, h1, h2⟩ := R.fns j l1 q e
      exact ⟨L, by rw [get_set, if_neg (by rw [R.len]; exact c)]; exact h1, h2⟩
  tabs := R.tabs
  pt := R.pt
  nt := R.nt
end DF
set_option maxHeartbeats 4000000
namespace DF
open PySem PySem.Spec PyProof.Rows L2 DL DI
end DF
set_option maxHeartbeats 4000000
namespace DF
open PySem PySem.Spec PyProof.Rows L2 DL DI
end DF
set_option maxHeartbeats 4000000
namespace DF
open PySem PySem.Spec PyProof.Rows L2 DL DI
end DF
set_option maxHeartbeats 4000000
namespace DF
open PySem PySem.Spec PyProof.Rows L2 DL DI
end DF
set_option maxHeartbeats 4000000
namespace DF
open PySem PySem.Spec PyProof.Rows L2 DL DI
variable [DL.Tabs] [DL.Me]
section
variable {K : PySem.W.Frag} {β : Addr} {P : Hp} {σ : L2.St} {H G G1 : Hp} {s : Sta} {γ : Addr} {S : Addr → Prop}
/-- lists that are no data, taken for data for a while -/
structure Lent (β : Addr) (P H G G1 : Hp) (γ : Addr) (S : Addr → Prop) : Prop where
  ins : ∀ a, S a → G a = none ∧ P a = none ∧ a ≠ β ∧ a ≠ γ ∧ ∃ vs, H a = some (.lst vs) ∧ G1 a = some (.lst vs)
  out : ∀ a, ¬ S a → G1 a = G a
theorem Lent.ext (L : Lent β P H G G1 γ S) : Ext G G1 := fun a o e => by
  by_cases c : S a
  · rw [(L.ins a c).1] at e; cases e
  · rw [L.out a c]; exact e
end
/-- each: some new list, or data -/
inductive El where
  | dat (d : Dt)
  | new (l : List Dt)
inductive Mix (K : PySem.W.Frag) (β : Addr) (G : Hp) : List (Addr × List V) → List El → List V → Prop
  | nil : Mix K β G [] [] []
  | dat {N ms vs d v} : DL.IsD K β G d v → Mix K β G N ms vs → Mix K β G N (.dat d :: ms) (v :: vs)
  | new {N ms vs l p us} : DL.IsL K β G l us → Mix K β G N ms vs → Mix K β G ((p, us) :: N) (.new l :: ms) (.ref p :: vs)
theorem Mix.len {K : PySem.W.Frag} {β : Addr} {G : Hp} {N : List (Addr × List V)} {ms : List El} {vs : List V} (m : Mix K β G N ms vs) : vs.length = ms.length := by
  induction m with
  | nil => rfl
  | dat _ _ ih => simp [ih]
  | new _ _ ih => simp [ih]
end DF
set_option maxHeartbeats 4000000
namespace DF
open PySem PySem.Spec PyProof.Rows L2 DL DI
variable [DL.Tabs] [DL.Me]
section
variable {K : PySem.W.Frag} {β γ : Addr} {P : Hp} {σ : L2.St} {H G G1 : Hp} {s : Sta}
theorem Mix.mono {N : List (Addr × List V)} {ms : List El} {vs : List V} (x : Ext G G1) (m : Mix K β G N ms vs) : Mix K β G1 N ms vs := by
  induction m with
  | nil => exact .nil
  | dat i m ih => exact .dat (IsD.mono x _ _ i) ih
  | new i m ih => exact .new (IsL.mono x _ _ i) ih
end
end DF
set_option maxHeartbeats 4000000
namespace DF
open PySem PySem.Spec PyProof.Rows L2 DL DI DB
end DF
set_option maxHeartbeats 4000000
namespace DF
open PySem PySem.Spec PyProof.Rows L2 DL DI DB
end DF
set_option maxHeartbeats 4000000
namespace DF
open PySem PySem.Spec PyProof.Rows L2 DL DI DB
variable [DL.Tabs] [DL.Me]
theorem pe_makeL {X : Cx} {CX : CXT} {k i : Nat} {f C : Addr} {fd : FuncData} {ps : List Str} {sp : Sp} {dvs : List V} {dv : List Value} {E : XK} {x : Str} {p pos : Pos} {e : Expr} {es : List Expr} {t : TA} (M : Mk X.K C f) (F : FnOk X.prog X.w X.K X.mg X.base CX k f fd ps sp) (hr : Room (k + 1) X.A) (hb : Binds X.K fd ps dv) (hd : Vals dvs dv) (hx : Passes CX X E)
    (hN : X.N[i]? = some x) (hv : Vis X.env.scope x) (ha : PA X (e :: es) t) (hdb : (x == ("__debug__" : Str)) = false := by decide) (hdc : (x == ("__classdict__" : Str)) = false := by decide)
    (he : starEach (e :: es) X.env = (false, eval e X.env) :: starEach es X.env := by rfl) (hpl : (backTo pos (starEach es X.env)).any (·.1) = false := by rfl) :
    PE X (.Call (.Name x p) (e :: es) [] pos) (fun σ H Q => σ[i]? = some (some (.ref C)) ∧ tMake C sp dvs E t σ H Q) := by
  refine ⟨fun pins s σ H Q I h => wpAny_Call_Name_kw (wpAny_mono ((pe_var (pos := p) hN hv hdb hdc).run pins s σ H (fun v H1 => v = .ref C ∧ tMake C sp dvs E t σ H1 Q) I ⟨.ref C, h.1, rfl, h.2⟩) (fun u s1 z => ?_) fun _ _ x => x)⟩
  obtain ⟨v, H1, I1, rv, rfl, hq⟩ := z
  cases (show u = Value.ref C from rv)
  exact PySem.W.callWith_K (h₀ := X.base) I1.ok.mod.kin M.kp (thn (ha.run pos pins s1 σ H1 _ I1 hq) fun us s2 ⟨vs, H2, I2, r, q⟩ => ⟨I2.kIn, run_make M F hr hb hd hx I2 r q⟩) he hpl
theorem rel_two {K : PySem.W.Frag} {β : Addr} {P : Hp} {H G : Hp} {bg : List Dt} {u v : V} {d : Dt} (R : Rel K β P [] H G ⟨[], bg⟩) (i : DL.IsD K β G d v) : Rel K β P [some u, some v] H G ⟨[none, some (.dat d)], bg⟩ where
  len := rfl
  gh := R.gh
  pr := R.pr
  pb := R.pb
  bag := R.bag
  dat := fun j d' e => by
    match j, e with
    | 0, e => cases e
    | 1, e => cases e; exact ⟨v, rfl, i⟩
    | j + 2, e => simp at e
  own := fun j l kk e => by
    match j, e with
    | 0, e => cases e
    | 1, e => cases e
    | j + 2, e => simp at e
  dj := fun j _ l _ kl km p e => by
    match j, e with
    | 0, e => cases e
    | 1, e => cases e
    | j + 2, e => simp at e
  obj := fun j c ks l e => by
    match j, e with
    | 0, e => cases e
    | 1, e => cases e
    | j + 2, e => simp at e
  oj := fun j _ c ks l c' ks' l' e => by
    match j, e with
    | 0, e => cases e
    | 1, e => cases e
    | j + 2, e => simp at e
  fns := fun j l q e => by
    match j, e with
    | 0, e => cases e
    | 1, e => cases e
    | j + 2, e => simp at e
  tabs := R.tabs
  pt := R.pt
  nt := R.nt
end DF
set_option maxHeartbeats 4000000
namespace DF
open PySem PySem.Spec PyProof.Rows L2 DL DI DB
end DF
set_option maxHeartbeats 4000000
namespace DF
open PySem PySem.Spec PyProof.Rows L2 DL DI DB
variable [DL.Tabs] [DL.Me]
omit [DL.Tabs] [DL.Me] in
theorem binds_def {K : PySem.W.Frag} {x qual : Str} {params : Arguments} {body : List Stmt} {scope : Scope} {ev : Addr} {f : Addr} {fd : FuncData} {ps : List Str} (F : FunD K x qual params body scope [.ref ev] [] f fd) {n : Nat} (hn : n + 1 = ps.length)
    (h : ∀ (T : Addr) (kV doc pm : Value) (an : Option Addr) (cdv ct : Value) (us its : List Value), us.length = n → its.length = 1 →
      ∃ k, bindArgs (PySem.W.fnOf x qual params body scope (.ref T) kV doc pm an cdv ct) ⟨us, []⟩ = seqItems? (.ref T) >>= k ∧ k (some its.toArray) = pure (ps.zip (us ++ its.drop 0))) : Binds K fd ps [.ref ev] := by
  obtain ⟨ds, h1, h2⟩ := F.binds1 n 0 (by simp) hn h
  have h1' : Vals [V.ref ev] ds := h1
  obtain ⟨u, rfl, ru⟩ := h1'.one
  cases (show u = Value.ref ev from ru)
  exact h2
end DF
namespace DH
open PySem L2 PySem.Spec PyProof.Rows
theorem wp_ite {α : Type} {M : Model} {A : Around} {E : Value → Shared → Prop} {s : Shared} {Q : α → Shared → Prop} {b : Bool} {x y : Sem α} (h1 : wpAny M A x Q E s) (h2 : wpAny M A y Q E s) : wpAny M A (if b = true then x else y) Q E s := by
  cases b
  · exact h2
  · exact h1
theorem meets_enum_T (t : Addr) (items : Array Value) :
    Meets (Builtin.«enumerate.__new__» { pos := [.type "enumerate", .ref t] }) fun x R s => s.heap.IsTuple t items ∧
      R (Except.ok (Flow.ret (.ref (s.heap.push { cls := .type "tuple_iterator", data := .fields #[.ref t, .int 0 0] }).objs.size)))
        { heap := (s.heap.push { cls := .type "tuple_iterator", data := .fields #[.ref t, .int 0 0] }).push { cls := .type "enumerate", data := .fields #[.none, .bool false, .ref s.heap.objs.size, rawInt 0, .none, .none] }, gens := s.gens, drawn := s.drawn, toks := s.toks, os := s.os } := by
  rintro prog w A R s ⟨h1, h2⟩
  unfold Builtin.«enumerate.__new__» Builtin.SmallTypes.newClass
  dsimp only
  refine wpAny_bind ?_
  refine wpAny_bind ?_
  refine wpAny_pure ?_
  simp only [Bool.not_true, Bool.false_eq_true, if_false]
  refine wpAny_bind ?_
  refine wpAny_of_eq sub_enumerate (wpAny_pure ?_)
  simp only [Bool.not_true, Bool.false_eq_true, if_false]
  have e1 : ((Value.type "enumerate" : Value) == Value.type "enumerate") = true := beq_self_eq_true _
  simp only [e1, if_true]
  refine wpAny_bind ?_
  unfold Builtin.SmallTypes.calledThroughType
  refine wpAny_bind (wpAny_stack fun st _ _ _ => wpAny_pure ?_)
  have fin : wpAny (model prog w) A.in1 (do
      let it ← pyIter (Value.ref t)
      let o ← Builtin.SmallTypes.newRecord (Value.type "enumerate") (Builtin.SmallTypes.ownedTupleFields ++ [it, rawInt 0, Value.none, Value.none])
      ret o) (fun fin s' => match fin with
          | Fin.done f => R (Except.ok f) s'
          | Fin.again c' => c'.quiet = true ∧ codeAny (model prog w) A c' R s') (fun e s' => R (Except.error e) s') s := by
    refine wpAny_bind (wpAny_pyIter_tuple h1 ?_)
    unfold Builtin.SmallTypes.newRecord newObj
    dsimp only
    refine wpAny_bind ?_
    rw [if_neg (by show ¬ ((6 : Nat) > sizeLine + 2); decide)]
    unfold newObjAsIs
    refine wpAny_bind (wpAny_alloc ?_)
    exact wpAny_pure (wpAny_pure h2)
  refine wp_ite ?_ ?_
  · refine wpAny_bind ?_
    show wpAny _ _ (pure (Value.ref t, none)) _ _ _
    exact wpAny_pure fin
  · refine wpAny_bind ?_
    show wpAny _ _ (pure (Value.ref t, none)) _ _ _
    exact wpAny_pure fin
abbrev itO (t : Addr) : Obj := { cls := .type "tuple_iterator", data := .fields #[.ref t, .int 0 0] }
abbrev enO (i : Addr) : Obj := { cls := .type "enumerate", data := .fields #[.none, .bool false, .ref i, rawInt 0, .none, .none] }
def enH (h : Heap) (t : Addr) : Heap := (h.push (itO t)).push (enO h.objs.size)
theorem enH_old {h : Heap} {t b : Addr} {o : Obj} (e : h.get? b = some o) : (enH h t).get? b = some o := Heap.get?_push_of_some _ (Heap.get?_push_of_some _ e)
theorem enH_it (h : Heap) (t : Addr) : (enH h t).get? h.objs.size = some (itO t) := Heap.get?_push_of_some _ (Heap.get?_push_size h rfl)
theorem enH_en (h : Heap) (t : Addr) : (enH h t).get? (h.objs.size + 1) = some (enO h.objs.size) := by
  have z := Heap.get?_push_size (h.push (itO t)) (o := enO h.objs.size) rfl
  rwa [Heap.size_push] at z
theorem call_enumT {prog : Program} {w : World} {A : Around} {E : Value → Shared → Prop} {s : Shared} {t : Addr} {xs : Array Value} {Q : Value → Shared → Prop} (there : s.heap.IsTuple t xs)
    (q : Q (.ref (s.heap.objs.size + 1)) { s with heap := enH s.heap t }) : wpAny (model prog w) A (call (.type "enumerate") [.ref t]) Q E s :=
  callType_new F.called_enumerate (by decide) (F.typeCall_enumerate_1 _) (F.newCall_enumerate_1 _) (fun ob => F.args_object_init_2 ob _) F.entry_enumerate_new (meets_enum_T t xs) ⟨there, by
    have sz : (s.heap.push (itO t)).objs.size = s.heap.objs.size + 1 := Heap.size_push ..
    refine And.intro ⟨enO s.heap.objs.size, ?_, rfl⟩ ?_
    · rw [sz]; exact enH_en s.heap t
    · rw [sz]; exact q⟩
section
variable {prog : Program} {w : World} {A : Around} (noE : A.handled = none) {it l : Addr} (apart : l ≠ it) (xs : Array Value) (n : Nat)
include noE apart
theorem draw_one : Draws prog w A it [it, l] xs.size (fun i v => xs[i]? = some v) (fun i h => h.IsTupleIter it l i ∧ h.IsTuple l xs) := {
  live := fun i h z => ⟨z.1.choose, z.1.choose_spec.1⟩
  frame := fun i h h' z same => ⟨Heap.IsTupleIter.at z.1 (same it (.head _)), z.2.choose, same l (.tail _ (.head _)) _ z.2.choose_spec.1, z.2.choose_spec.2⟩
  item := fun i s Q E lt z q => RZ.nextOf_tuple_item z.1 z.2 (Array.getElem?_eq_getElem lt) fun h' on sb => q _ h' s.toks (Array.getElem?_eq_getElem lt) ⟨on, z.2.choose, sb.extBut _ _ apart z.2.choose_spec.1, z.2.choose_spec.2⟩ sb
  done := fun s Q E z => RZ.nextOf_tuple_end noE z.1 z.2 (Array.getElem?_eq_none (Nat.le_refl _)) }
omit apart in
theorem draw_end (past : xs.size ≤ n) : Draws prog w A it [it, l] n (fun _ _ => True) (fun i h => i = n ∧ h.IsTupleIter it l i ∧ h.IsTuple l xs) := {
  live := fun i h z => ⟨z.2.1.choose, z.2.1.choose_spec.1⟩
  frame := fun i h h' z same => ⟨z.1, Heap.IsTupleIter.at z.2.1 (same it (.head _)), z.2.2.choose, same l (.tail _ (.head _)) _ z.2.2.choose_spec.1, z.2.2.choose_spec.2⟩
  item := fun i s Q E lt z => absurd (z.1 ▸ lt) (Nat.lt_irrefl _)
  done := fun s Q E z => RZ.nextOf_tuple_end noE z.2.1 z.2.2 (Array.getElem?_eq_none past) }
end
/-- the tuple at a, each of its items in a pair of its own -/
def IteT (K : PySem.W.Frag) (a : Addr) : It where
  go i H := ∃ xs, SqT K H a xs ∧ i < xs.length
  yld i H v H' := ∃ T x, v = .ref T ∧ H T = none ∧ H' = upd H T (.tup [.int (i : Nat), x]) ∧ ∀ xs, SqT K H a xs → xs[i]? = some x
  stop i H := ∃ xs, SqT K H a xs ∧ xs.length ≤ i
theorem two {e it b : Addr} {p : Addr → Prop} (hb : b ∈ [e, it]) (h1 : p e) (h2 : p it) : p b := by
  rcases List.mem_cons.mp hb with rfl | hb
  · exact h1
  · rw [List.mem_singleton.mp hb]; exact h2
theorem turn_enumT {P : Program} {w : World} {K : PySem.W.Frag} {elts : List Expr} {kk : Nat} {tpos : Pos} (a e it : Addr) :
    Turn P w K (.Tuple elts kk tpos) (IteT K a) [e, it] e (fun i h => (∃ old, IsEnum h e it (i : Nat) old) ∧ h.IsTupleIter it a i ∧ e ≠ it) := {
  mem := List.mem_cons_self ..
  obj := fun i h z b hb => two (p := fun b => ∃ o, h.get? b = some o ∧ ∀ v, o.data ≠ .cell v) hb
    ⟨_, z.1.choose_spec, fun _ c => Data.noConfusion c⟩ ⟨z.2.1.choose, z.2.1.choose_spec.1, fun _ c => by rw [z.2.1.choose_spec.2.2] at c; exact Data.noConfusion c⟩
  keep := fun i h h' z same => ⟨⟨_, same e (.head _) _ z.1.choose_spec⟩, Heap.IsTupleIter.at z.2.1 (same it (.tail _ (.head _))), z.2.2⟩
  item := fun X hP hw hK calm i pins s σ H E I free z g => by
    subst hP hw hK
    obtain ⟨⟨old, en⟩, on, ne⟩ := z
    obtain ⟨xs, tu, lt⟩ := g
    obtain ⟨vs, rel, there, _⟩ := I.tuple tu
    have there' : s.heap.IsTuple a vs.toArray := there
    have cls : ∀ {b : Addr} {o : Obj}, s.heap.get? b = some o → o.cls ≠ .type "tuple" → b ≠ a := fun g n z => by
      obtain ⟨o2, g2, c2, _⟩ := there'
      rw [z, g2] at g
      cases g
      exact n c2
    have nea : e ≠ a := cls en fun z => absurd (show Value.type "enumerate" = Value.type "tuple" from z) (by decide)
    have nia : it ≠ a := by
      obtain ⟨o, g, c, _⟩ := on
      exact cls g (by rw [c]; decide)
    have lv : vs.toArray.size = xs.length := by rw [List.size_toArray]; exact rel.length.symm
    have W := WalksT.enumerateD (draw_one (prog := X.prog) (w := X.w) (A := X.A.in1) (I.ok.hd calm) nia.symm vs.toArray) e ne (by simp [ne, nea]) (List.mem_cons_self ..)
    refine W.item i s _ _ (lv ▸ lt) ⟨⟨old, en⟩, on, there'⟩ fun T ws h1 tk pt big tup mid k1 => ⟨.ref T, rfl, ?_⟩
    obtain ⟨t0, x, hx, rfl⟩ := pt
    refine W.go elts kk tpos i T _ _ _ mid fun h2 st2 k2 => ?_
    obtain ⟨⟨old2, en2⟩, on2, _⟩ := st2
    obtain ⟨u, hu, ru⟩ := rel.get (x := xs[i]) (List.getElem?_eq_getElem lt)
    obtain rfl : x = u := by
      rw [List.getElem?_toArray, hu] at hx
      exact (Option.some.inj hx).symm
    have tup2 : h2.IsTuple T #[.int i t0, x] := by
      obtain ⟨o, g, r⟩ := tup
      exact ⟨o, k2 T o (W.apart i T h1 mid) g, r⟩
    refine ⟨.ref T, upd H T (.tup [.int (i : Nat), xs[i]]), I.turnedNew (ch := [e, it]) (fun b o nb g => k2 b o nb (k1 b o nb g)) free big ⟨by show (2 : Nat) ≤ sizeLine; decide, [.int i t0, x], .cons ⟨t0, rfl⟩ (.cons ru .nil), tup2⟩, rfl, ⟨T, xs[i], rfl, I.hok.fresh big, rfl, fun ys tu2 => ?_⟩, ⟨⟨old2, en2⟩, on2, ne⟩, fun b hb => ?_⟩
    · rw [I.tuple_inj tu2 tu]
      exact List.getElem?_eq_getElem lt
    · refine (upd_ne fun z => ?_).trans (free b hb).1
      exact absurd (Nat.lt_of_lt_of_le (two (p := fun b => b < s.heap.objs.size) hb (Heap.lt_size en) (Heap.lt_size on.choose_spec.1)) big) (by rw [z]; exact Nat.lt_irrefl _)
  done := fun X hP hw hK calm i pins s σ H E I free z g => by
    subst hP hw hK
    obtain ⟨⟨old, en⟩, on, ne⟩ := z
    obtain ⟨xs, tu, past⟩ := g
    obtain ⟨vs, rel, there, _⟩ := I.tuple tu
    have there' : s.heap.IsTuple a vs.toArray := there
    have lv : vs.toArray.size ≤ i := by rw [List.size_toArray, ← rel.length]; exact past
    exact wpAny_pyNext_enum_endD (draw_end (prog := X.prog) (w := X.w) (A := X.A.in1) (I.ok.hd calm) vs.toArray i lv) en ⟨rfl, on, there'⟩ fun h1 k1 => ⟨rfl, I.turnedL (ch := [it]) (fun b o nb g => k1 b o (fun z => nb (List.mem_singleton.mpr z)) g) fun b hb => free b (List.mem_cons_of_mem _ hb)⟩
  self := fun A i s Q E z q => wpAny_pyIter_enum z.1.choose_spec q }
/-- of a list, as the kit has it; or of a tuple -/
def iEnumT (K : PySem.W.Frag) (ta : TA) : TI := fun σ H R => ta σ H fun vs H1 => ∃ a xs, vs = [.ref a] ∧ SqT K H1 a xs ∧ R (IteT K a) H1
theorem pi_enumLT {X : Cx} {e : Expr} {ta : TA} {p pos tpos : Pos} {elts : List Expr} {kk : Nat} (hg : Gl X "enumerate") (hm : X.mg "enumerate" = none) (ha : PA X [e] ta) (hs : starEach [e] X.env = [(false, eval e X.env)] := by rfl) :
    PI X (.Tuple elts kk tpos) (.Call (.Name "enumerate" p) [e] [] pos) (fun σ H R => iEnum X.K ta σ H R ∨ iEnumT X.K ta σ H R) := by
  refine ⟨fun pins s σ H R I h => h.elim (fun h => (pi_enum hg hm ha hs).run pins s σ H R I h) fun h => ?_⟩
  refine Call_ (ld_blt I hg hm boot_enumerate (PyProof.Rows.callWith_type1 (thn (ha.run pos pins s σ H _ I h) fun us s1 z => ?_) hs rfl))
  obtain ⟨vs, H1, I1, rel, a, xs, rfl, tu, q⟩ := z
  obtain ⟨u, hu, _⟩ := rel.get (i := 0) rfl
  match us, rel with
  | [_], .cons rfl .nil =>
    obtain ⟨its, _, there, _⟩ := I1.tuple tu
    refine call_enumT (xs := its.toArray) there (wpAny_pyIter_enum (enH_en s1.heap a) ⟨_, [s1.heap.objs.size + 1, s1.heap.objs.size], _, _, H1, rfl, I1.kept (t' := s1.toks) (fun b o => enH_old), turn_enumT a _ s1.heap.objs.size, ⟨⟨_, enH_en s1.heap a⟩, ⟨_, enH_it s1.heap a, rfl, rfl⟩, Nat.succ_ne_self _⟩, fun b hb => ?_, q⟩)
    exact two (p := fun b => FpOk X pins H1 b) hb (I1.fpOk (Nat.le_succ _) (I1.hok.fresh (Nat.le_succ _))) (I1.fpOk (Nat.le_refl _) (I1.hok.fresh (Nat.le_refl _)))
theorem walk_enumT {K : PySem.W.Frag} {a : Addr} {xs : List V} : Walk (IteT K a) xs.length (fun H => SqT K H a xs) (YPair (fun i => some (.int (i : Nat))) (fun i => xs[i]?)) :=
  ⟨fun i H lt tu => ⟨xs, tu, lt⟩, fun H tu => ⟨xs, tu, Nat.le_refl _⟩, fun i H v H' lt tu ⟨T, x, e1, e2, e3, e4⟩ => ⟨T, _, x, e1, e2, e3, rfl, e4 xs tu⟩⟩
end DH
set_option maxHeartbeats 4000000
namespace DH
open PySem PySem.Spec PyProof.Rows L2 DL DT
variable [DL.Tabs] [DL.Me]
omit [DL.Me] in
def wSeq (f : DM Dt) : DM (List Dt) := fun s => (f s).bind fun p => match p.1 with
  | .lst l => some (l, p.2)
  | .tup l => some (l, p.2)
  | .old l => some (l, p.2)
  | _ => none
theorem di_seq {X : Cx} {tg e : Expr} {f : DM Dt} (h : DE X e f) : DI X tg e (wSeq f) := by
  obtain ⟨t, p, o⟩ := h
  refine ⟨fun σ H R => iList X.K t σ H R ∨ iTup X.K t σ H R, ⟨fun pins s σ H R I h => h.elim (fun h => (pi_list p).run pins s σ H R I h) fun h => (pi_tup p).run pins s σ H R I h⟩, fun β P σ H G s l s' R e R1 q => ?_⟩
  unfold wSeq at e
  obtain ⟨⟨x, s1⟩, e1, e⟩ := Option.bind_eq_some_iff.mp e
  cases x with
  | lst m =>
    cases e
    refine .inl (o β P σ H G s _ s1 R e1 _ fun v H1 G1 x1 R1 i1 => ?_)
    obtain ⟨a, vs, rfl, h1, h2⟩ := is_lst.mp i1
    refine ⟨a, rfl, ⟨vs, .inl (.inl (R1.gh _ _ h1))⟩, q _ H1 G1 (fun H => SqL X.K H a vs) (YAt vs) x1 R1 (by rw [← h2.len]; exact walk_list) (fun H2 G2 x2 g => .inl (.inl (g _ _ (x2 _ _ h1)))) ?_⟩
    rintro i d H2 x H3 P1 σ1 G2 s2 hd x2 R2 ⟨rfl, hx⟩
    obtain ⟨v, e4, i4⟩ := h2.get hd
    rw [hx] at e4
    cases e4
    exact same_turn R2 (IsD.mono x2 _ _ i4)
  | tup m =>
    cases e
    refine .inr (o β P σ H G s _ s1 R e1 _ fun v H1 G1 x1 R1 i1 => ?_)
    obtain ⟨a, vs, rfl, h1, h2⟩ := is_tup.mp i1
    refine ⟨a, rfl, ⟨vs, ext_t R1.gh h1⟩, q _ H1 G1 (fun H => SqT X.K H a vs) (YAt vs) x1 R1 (by rw [← h2.len]; exact walk_tup) (fun H2 G2 x2 g => ext_t (x2.trans g) h1) ?_⟩
    rintro i d H2 x H3 P1 σ1 G2 s2 hd x2 R2 ⟨rfl, hx⟩
    obtain ⟨v, e4, i4⟩ := h2.get hd
    rw [hx] at e4
    cases e4
    exact same_turn R2 (IsD.mono x2 _ _ i4)
  | old m =>
    cases e
    refine .inl (o β P σ H G s _ s1 R e1 _ fun v H1 G1 x1 R1 i1 => ?_)
    obtain ⟨a, ob, vs, rfl, h1, h2⟩ := is_old.mp i1
    refine ⟨a, rfl, ⟨vs, .inl (.inr ⟨ob, R1.gh _ _ h1⟩)⟩, q _ H1 G1 (fun H => SqL X.K H a vs) (YAt vs) x1 R1 (by rw [← h2.len]; exact walk_list) (fun H2 G2 x2 g => .inl (.inr ⟨ob, g _ _ (x2 _ _ h1)⟩)) ?_⟩
    rintro i d H2 x H3 P1 σ1 G2 s2 hd x2 R2 ⟨rfl, hx⟩
    obtain ⟨v, e4, i4⟩ := h2.get hd
    rw [hx] at e4
    cases e4
    exact same_turn R2 (IsD.mono x2 _ _ i4)
  | _ => cases e
omit [DL.Me] in
def wEnumS (f : DM (List Dt)) : DM (List Dt) := fun s => (f s).bind fun p => match p.1 with
  | [.lst l] => some (enumD 0 l, p.2)
  | [.tup l] => some (enumD 0 l, p.2)
  | [.old l] => some (enumD 0 l, p.2)
  | _ => none
theorem di_enumS {X : Cx} {e : Expr} {f : DM (List Dt)} {p pos tpos : Pos} {elts : List Expr} {kk : Nat} (hg : Gl X "enumerate") (hm : X.mg "enumerate" = none) (ha : DA X [e] f) (hs : starEach [e] X.env = [(false, eval e X.env)] := by rfl) :
    DI X (.Tuple elts kk tpos) (.Call (.Name "enumerate" p) [e] [] pos) (wEnumS f) := by
  obtain ⟨t, p, o⟩ := ha
  refine ⟨_, pi_enumLT hg hm p hs, fun β P σ H G s l s' R e Q q => ?_⟩
  unfold wEnumS at e
  obtain ⟨⟨x, s1⟩, e1, e⟩ := Option.bind_eq_some_iff.mp e
  split at e
  · rename_i a hx
    rw [show x = _ from hx] at e1
    cases e
    refine .inl (o β P σ H G s _ s1 R e1 _ fun vs H1 G1 x1 R1 i1 => ?_)
    obtain ⟨v, rfl, h⟩ := one_of i1
    obtain ⟨pa, xs, rfl, g1, g2⟩ := is_lst.mp h
    refine ⟨pa, xs, rfl, .inl (.inl (R1.gh _ _ g1)), q _ H1 G1 (fun H => SqL X.K H pa xs) (YPair (fun i => some (.int (i : Nat))) (fun i => xs[i]?)) x1 R1 (by rw [enum_len, ← g2.len]; exact walk_enum (xs := xs)) (fun H2 G2 x2 g => .inl (.inl (g _ _ (x2 _ _ g1)))) fun i d H2 x H3 P1 σ1 G2 s2 hd x2 R2 y => ?_⟩
    obtain ⟨T, u, v, rfl, hT, rfl, hu, hv⟩ := y
    obtain ⟨da, e3, rfl⟩ := enum_get a 0 i d hd
    obtain ⟨v', e4, i4⟩ := g2.get e3
    dsimp only at hu hv
    cases hu
    rw [hv] at e4; cases e4
    have xx := Ext.new (o := .tup [V.int (i : Nat), v]) (R2.free hT)
    refine ⟨_, xx, R2.new hT, is_tup.mpr ⟨T, _, rfl, .inl (.inl upd_same), isl_cons.mpr ⟨_, _, rfl, is_int.mpr (by rw [Nat.zero_add]), isl_cons.mpr ⟨_, _, rfl, IsD.mono (x2.trans xx) _ _ i4, isl_nil.mpr rfl⟩⟩⟩⟩
  · rename_i a hx
    rw [show x = _ from hx] at e1
    cases e
    refine .inr (o β P σ H G s _ s1 R e1 _ fun vs H1 G1 x1 R1 i1 => ?_)
    obtain ⟨v, rfl, h⟩ := one_of i1
    obtain ⟨pa, xs, rfl, g1, g2⟩ := is_tup.mp h
    refine ⟨pa, xs, rfl, ext_t R1.gh g1, q _ H1 G1 (fun H => SqT X.K H pa xs) (YPair (fun i => some (.int (i : Nat))) (fun i => xs[i]?)) x1 R1 (by rw [enum_len, ← g2.len]; exact walk_enumT (xs := xs)) (fun H2 G2 x2 g => ext_t (x2.trans g) g1) fun i d H2 x H3 P1 σ1 G2 s2 hd x2 R2 y => ?_⟩
    obtain ⟨T, u, v, rfl, hT, rfl, hu, hv⟩ := y
    obtain ⟨da, e3, rfl⟩ := enum_get a 0 i d hd
    obtain ⟨v', e4, i4⟩ := g2.get e3
    dsimp only at hu hv
    cases hu
    rw [hv] at e4; cases e4
    have xx := Ext.new (o := .tup [V.int (i : Nat), v]) (R2.free hT)
    refine ⟨_, xx, R2.new hT, is_tup.mpr ⟨T, _, rfl, .inl (.inl upd_same), isl_cons.mpr ⟨_, _, rfl, is_int.mpr (by rw [Nat.zero_add]), isl_cons.mpr ⟨_, _, rfl, IsD.mono (x2.trans xx) _ _ i4, isl_nil.mpr rfl⟩⟩⟩⟩
  · rename_i a hx
    rw [show x = _ from hx] at e1
    cases e
    refine .inl (o β P σ H G s _ s1 R e1 _ fun vs H1 G1 x1 R1 i1 => ?_)
    obtain ⟨v, rfl, h⟩ := one_of i1
    obtain ⟨pa, ob, xs, rfl, g1, g2⟩ := is_old.mp h
    refine ⟨pa, xs, rfl, .inl (.inr ⟨ob, R1.gh _ _ g1⟩), q _ H1 G1 (fun H => SqL X.K H pa xs) (YPair (fun i => some (.int (i : Nat))) (fun i => xs[i]?)) x1 R1 (by rw [enum_len, ← g2.len]; exact walk_enum (xs := xs)) (fun H2 G2 x2 g => .inl (.inr ⟨ob, g _ _ (x2 _ _ g1)⟩)) fun i d H2 x H3 P1 σ1 G2 s2 hd x2 R2 y => ?_⟩
    obtain ⟨T, u, v, rfl, hT, rfl, hu, hv⟩ := y
    obtain ⟨da, e3, rfl⟩ := enum_get a 0 i d hd
    obtain ⟨v', e4, i4⟩ := g2.get e3
    dsimp only at hu hv
    cases hu
    rw [hv] at e4; cases e4
    have xx := Ext.new (o := .tup [V.int (i : Nat), v]) (R2.free hT)
    refine ⟨_, xx, R2.new hT, is_tup.mpr ⟨T, _, rfl, .inl (.inl upd_same), isl_cons.mpr ⟨_, _, rfl, is_int.mpr (by rw [Nat.zero_add]), isl_cons.mpr ⟨_, _, rfl, IsD.mono (x2.trans xx) _ _ i4, isl_nil.mpr rfl⟩⟩⟩⟩
  · cases e
end DH
set_option maxHeartbeats 4000000
namespace DJ
open PySem PySem.Spec PySem.Calls PyProof.Rows PySem.W L2 DL DI DX
variable [DL.Tabs] [DL.Me]
omit [DL.Me] in
abbrev FIX := List Dt → List Dt → Option (Er × List Dt)
def spIX (K : Frag) (c : Str) (n : Nat) (F : FIX) : Sp := fun vs H Q E => ∃ (β : Addr) (P G : Hp) (ds bg : List Dt) (er : Er) (bg' : List Dt) (p C dx : Addr) (ws : List V), vs = .ref p :: ws ∧ vs.length = n ∧ IsL K β G ds ws ∧ Rel K β P [] H G ⟨[], bg⟩ ∧ InsC K c C ∧
  H p = some (.ins C dx []) ∧ G p = none ∧ P p = none ∧ F ds bg = some (er, bg') ∧ errAt K β P [] G ⟨[], bg'⟩ E er
omit [DL.Me] in
def fnIX (n : Nat) (c : Str) (f : DMsX) : FIX := fun ds bg => (f ⟨some (.obj c [] []) :: (ds.map (fun d => some (.dat d)) ++ List.replicate (n - 1 - ds.length) none), bg⟩).bind fun p => match p.1 with
  | .ex er => some (er, p.2.bag)
  | _ => none
section
variable {P : Program} {w : World} {K : Frag} {mg : Str → Option Value} {base : Heap}
theorem fn_okIX {qual c : Str} {params : Arguments} {body : List Stmt} {scope : Scope} {dvs : List V} {kws : List (Str × V)} {f : Addr} {fd : FuncData} {N ps : List Str} {k n : Nat} {g : DMsX} (F : FunD K "__init__" qual params body scope dvs kws f fd) (S : FnScope N ps scope) (hn : ps.length = n := by rfl)
    (hb : ∀ (_ : Me) (cdv : Value) (A : Around) (outer : List Env) (s : Shared) (H : Hp) (E : XK), Room k (A.deeper (envOfC qual scope s.heap.objs.size f cdv)) → Takes (cxOf (L2.CX P w) P w K mg base N qual scope f cdv A outer s H E) (fun cls d _ H => E cls d H) →
      DSXs (cxOf (L2.CX P w) P w K mg base N qual scope f cdv A outer s H E) E body g) : FnOk P w K mg base (L2.CX P w) (k + 1) f fd ps (spIX K c n (fnIX N.length c g)) := by
  refine F.ok S (fun vs H Q E h => ?_) (fun cdv A outer s H vs Q E hr h => ?_)
  · obtain ⟨β, P, G, ds, bg, er, bg', p, C, dx, ws, e, h, _⟩ := h
    rw [hn]; exact h
  · obtain ⟨β, PP, G, ds, bg, er, bg', p, C, dx, ws, rfl, hl, i, R, h0, h1, h2, h3, e, q⟩ := h
    refine ⟨_, hb ⟨p⟩ cdv A outer s H E hr (takes_of rfl rfl rfl rfl), ?_⟩
    unfold fnIX at e
    obtain ⟨⟨res, s'⟩, e1, e⟩ := Option.bind_eq_some_iff.mp e
    dsimp only at e
    have R0 : @Rel _ ⟨p⟩ K β PP (L2.start N (.ref p :: ws)) H G _ := @rel_startI _ ⟨p⟩ K β PP H G N ds bg ws c p C dx rfl i (rel_me _ _ R) h0 h1 h2 h3
    refine ⟨β, PP, G, _, res, s', R0, e1, ?_⟩
    cases res with
    | ex nm =>
      cases e
      exact fun C dd σ' H' G' x R' ec gd => q C dd H' G' x (rel_me _ _ (@Rel.leave _ ⟨p⟩ _ _ _ _ _ _ _ R')) ec gd
    | _ => cases e
theorem fn_okIXF {qual c : Str} {st : Stmt} {f : Addr} {fd : FuncData} {N ps : List Str} {k n : Nat} {g : DMsX} (F : Fun K "__init__" qual st f fd) (S : FnScope N ps (defScope st)) (hn : ps.length = n := by rfl)
    (hb : ∀ (_ : Me) (cdv : Value) (A : Around) (outer : List Env) (s : Shared) (H : Hp) (E : XK), Room k (A.deeper (envOfC qual (defScope st) s.heap.objs.size f cdv)) → Takes (cxOf (L2.CX P w) P w K mg base N qual (defScope st) f cdv A outer s H E) (fun cls d _ H => E cls d H) →
      DSXs (cxOf (L2.CX P w) P w K mg base N qual (defScope st) f cdv A outer s H E) E (defBody st) g) : FnOk P w K mg base (L2.CX P w) (k + 1) f fd ps (spIX K c n (fnIX N.length c g)) := by
  refine F.okX S (fun vs H Q E h => ?_) (fun cdv A outer s H vs Q E hr h => ?_)
  · obtain ⟨β, P, G, ds, bg, er, bg', p, C, dx, ws, e, h, _⟩ := h
    rw [hn]; exact h
  · obtain ⟨β, PP, G, ds, bg, er, bg', p, C, dx, ws, rfl, hl, i, R, h0, h1, h2, h3, e, q⟩ := h
    refine ⟨_, hb ⟨p⟩ cdv A outer s H E hr (takes_of rfl rfl rfl rfl), ?_⟩
    unfold fnIX at e
    obtain ⟨⟨res, s'⟩, e1, e⟩ := Option.bind_eq_some_iff.mp e
    dsimp only at e
    have R0 : @Rel _ ⟨p⟩ K β PP (L2.start N (.ref p :: ws)) H G _ := @rel_startI _ ⟨p⟩ K β PP H G N ds bg ws c p C dx rfl i (rel_me _ _ R) h0 h1 h2 h3
    refine ⟨β, PP, G, _, res, s', R0, e1, ?_⟩
    cases res with
    | ex nm =>
      cases e
      exact fun C dd σ' H' G' x R' ec gd => q C dd H' G' x (rel_me _ _ (@Rel.leave _ ⟨p⟩ _ _ _ _ _ _ _ R')) ec gd
    | _ => cases e
end
omit [DL.Me] in
def mMakeX (F : FIX) (dd : List Dt) (g : DM (List Dt)) : DMX := fun s => (g s).bind fun p => (F (p.1 ++ dd) p.2.bag).bind fun q => some (.inr q.1, { p.2 with bag := q.2 })
section
variable {X : Cx} {W : XK}
/-- what __init__ is handed: a new instance, nobody knows of it -/
theorem made_rel {K : Frag} {β : Addr} {P : Hp} {σ : L2.St} {H1 G1 : Hp} {s1 : Sta} (R1 : Rel K β P σ H1 G1 s1) {x dx C : Addr} (hx : H1 x = none) (hdx : H1 dx = none) (hne : dx ≠ x) :
    Rel K β (shut β (upd H1 dx (.own x)) G1) [] (upd (upd H1 dx (.own x)) x (.ins C dx [])) G1 ⟨[], s1.bag⟩ ∧ G1 x = none ∧ shut β (upd H1 dx (.own x)) G1 x = none ∧ Rel K β P σ (upd H1 dx (.own x)) G1 s1 := by
  have hx2 : upd H1 dx (.own x) x = none := by rw [upd_ne hne.symm]; exact hx
  have R2 := rel_grow (o := .own x) R1 hdx
  have sx : shut β (upd H1 dx (.own x)) G1 x = none := by
    unfold shut
    split
    · exact hx2
    · rfl
  exact ⟨rel_grow R2.callee hx2, R1.free hx, sx, R2⟩
theorem dex_make {k : Nat} {f C : Addr} {fd : FuncData} {ps : List Str} {n : Nat} {F : FIX} {x : Str} {e : Expr} {es : List Expr} {p pos : Pos} {g : DM (List Dt)} {dd : List Dt} {dvs : List V} {dus : List Value} (M : Mk X.K C f) (hC : InsC X.K x C) (FF : FnOk X.prog X.w X.K X.mg X.base (L2.CX X.prog X.w) k f fd ps (spIX X.K x n F)) (hr : Room (k + 1) X.A) (hg : Gl X x) (hm : X.mg x = some (.ref C)) (hb : Binds X.K fd ps dus) (hv : Vals dvs dus) (hd : ∀ β G, IsL X.K β G dd dvs) (tk : Takes X (fun cls d _ H => W cls d H))
    (ha : DA X (e :: es) g) (hn : ∀ s ds s', g s = some (ds, s') → ds.length + dd.length + 1 = n) (hdb : (x == ("__debug__" : Str)) = false := by decide) (he : starEach (e :: es) X.env = (false, eval e X.env) :: starEach es X.env := by rfl) (hpl : (backTo pos (starEach es X.env)).any (·.1) = false := by rfl) :
    DEX X W (.Call (.Name x p) (e :: es) [] pos) (mMakeX F dd g) := by
  obtain ⟨t, p1, o1⟩ := ha
  have pe := pe_make (p := p) (pos := pos) M FF hr hg hm hb hv (passes_call (E := W) tk fun _ _ _ _ h => h) p1 hdb he hpl
  refine ⟨fun pins s σ H Q I h => pe.run pins s σ H Q I ?_⟩
  obtain ⟨β, P, G, a, r, a', R, e1, q⟩ := h
  unfold mMakeX at e1
  obtain ⟨⟨ds, s1⟩, e2, e1⟩ := Option.bind_eq_some_iff.mp e1
  obtain ⟨⟨er, bg'⟩, e3, e1⟩ := Option.bind_eq_some_iff.mp e1
  cases e1
  refine o1 β P σ H G a ds s1 R e2 _ fun vs H1 G1 x1 R1 i1 => ?_
  intro x dx hx hdx hne
  obtain ⟨R3, gx, sx, R2⟩ := made_rel (C := C) R1 hx hdx hne
  refine ⟨β, shut β (upd H1 dx (.own x)) G1, G1, ds ++ dd, s1.bag, er, bg', x, C, dx, vs ++ dvs, rfl, ?_, i1.append (hd β G1), R3, hC, upd_same, gx, sx, e3, ?_⟩
  · have h1 := hn _ _ _ e2
    have h2 := i1.len
    have h3 := (hd β G1).len
    simp only [List.length_cons, List.length_append]
    omega
  · exact fun C dd H' G' x2 R4 ec gd => q C dd H' G' (x1.trans x2) (R2.back x2 R4) ec gd
end
omit [DL.Me] in
def kFldX (i : Nat) (c f : Str) (fe : DMX) : DMsX := fun s => (fe s).bind fun p => match p.1 with
  | .inr er => some (.ex er, p.2)
  | .inl d => match p.2.sl[i]? with
    | some (some (.obj c' ks l)) => if c' = c ∧ f ∉ ks ∧ ks.length < 900 then some (.nx, { p.2 with sl := p.2.sl.set i (some (.obj c (ks ++ [f]) (l ++ [d]))) }) else none
    | _ => none
section
variable {X : Cx} {W : XK} {f : Str} {pos : Pos}
theorem dsx_fld {i : Nat} {c : Str} {x : Str} {p p' : Pos} {e : Expr} {fe : DMX} (hn : NoF X.K [c] f) (hp : PE X (.Name x p) (tVar i)) (he : DEX X W e fe) (hs : swapsWith e (some (.Attribute (.Name x p) f p')) pos.line X.env = pure false := by rfl) :
    DSX X W (.Assign [.Attribute (.Name x p) f p'] e pos) (kFldX i c f fe) := by
  have ps := ps_fld (pos := pos) (pos' := p') hp he hs
  refine ⟨fun pins s σ H D I k => ps.run pins s σ H D I ?_⟩
  obtain ⟨β, P, G, z, r, z', R, e1, q⟩ := k
  unfold kFldX at e1
  obtain ⟨⟨y, s1⟩, e2, e1⟩ := Option.bind_eq_some_iff.mp e1
  refine ⟨β, P, G, z, y, s1, R, e2, ?_⟩
  cases y with
  | inr er =>
    cases e1
    exact fun C dd H' G' x R' ec gd => q C dd _ H' G' x R' ec gd
  | inl d =>
    dsimp only at e1
    split at e1
    · rename_i c' ks l hsl
      split at e1
      · rename_i hc
        obtain ⟨hc, hf, hlen⟩ := hc
        subst hc
        cases e1
        intro v H1 G1 x1 R1 i1
        obtain ⟨a, C, dx, vs, h1, h0, h2, h3, h4, h5, h6⟩ := R1.obj i _ ks l hsl
        refine ⟨.ref a, h1, a, C, dx, _, rfl, h2, h0.2.cls, hn _ (List.mem_singleton.mpr rfl) C h0.2.at_, ?_, ?_⟩
        · rw [List.length_zip]; omega
        · exact q _ _ G1 x1 (rel_store R1 hsl h1 h0 h2 h3 h4 h5 h6 hf i1)
      · cases e1
    · cases e1
end
end DJ
set_option maxHeartbeats 4000000
namespace DJ
open PySem PySem.Spec PySem.Calls PyProof.Rows PySem.W L2 DL DI DX
variable [DL.Tabs] [DL.Me]
omit [DL.Me] in
def mMakeKX (F : FIX) (dd : List Dt) (ge gk : DM (List Dt)) : DMX := fun s => (ge s).bind fun p => (gk p.2).bind fun q => (F (p.1 ++ q.1 ++ dd) q.2.bag).bind fun r => some (.inr r.1, { q.2 with bag := r.2 })
section
variable {X : Cx} {W : XK}
theorem dex_makeK {k m : Nat} {f C : Addr} {fd : FuncData} {ps ks : List Str} {n : Nat} {F : FIX} {x : Str} {e : Expr} {es : List Expr} {kws : List Keyword} {p pos : Pos} {ge gk : DM (List Dt)} {dd : List Dt} {dvs : List V} {g : List Value → List Value → List Value} {gV : List V → List V → List V} (hgV : ∀ vs zs, gV vs zs = vs ++ zs ++ dvs)
    (M : Mk X.K C f) (hC : InsC X.K x C) (FF : FnOk X.prog X.w X.K X.mg X.base (L2.CX X.prog X.w) k f fd ps (spIX X.K x n F)) (hr : Room (k + 1) X.A) (hg : Gl X x) (hm : X.mg x = some (.ref C)) (hb : KBn X.K fd ps (m + 1) ks g gV) (hd : ∀ β G, IsL X.K β G dd dvs) (tk : Takes X (fun cls d _ H => W cls d H))
    (ha : DA X (e :: es) ge) (hkw : DL.DK X kws gk) (hn : ∀ s ds s', ge s = some (ds, s') → ds.length = m) (hn2 : ∀ s ds s', gk s = some (ds, s') → ds.length = ks.length) (hnn : m + ks.length + dd.length + 1 = n)
    (hall : (backToKw pos (keywordEach kws X.env)).all (·.1.isSome) = true := by rfl) (hks : (backToKw pos (keywordEach kws X.env)).filterMap (·.1) = ks := by rfl) (hdb : (x == ("__debug__" : Str)) = false := by decide)
    (he : starEach (e :: es) X.env = (false, eval e X.env) :: starEach es X.env := by rfl) (hpl : ((backTo pos (starEach (e :: es) X.env)).any (·.1) || (backToKw pos (keywordEach kws X.env)).any (·.1.isNone)) = false := by rfl) :
    DEX X W (.Call (.Name x p) (e :: es) kws pos) (mMakeKX F dd ge gk) := by
  obtain ⟨t, p1, o1⟩ := ha
  obtain ⟨u, p2, o2⟩ := hkw
  have pe := pe_makeK (p := p) (pos := pos) M FF hr hg hm hb (passes_call (E := W) tk fun _ _ _ _ h => h) p1 p2 hall hks hdb he hpl
  refine ⟨fun pins s σ H Q I h => pe.run pins s σ H Q I ?_⟩
  obtain ⟨β, P, G, a, r, a', R, e1, q⟩ := h
  unfold mMakeKX at e1
  obtain ⟨⟨ds, s1⟩, e2, e1⟩ := Option.bind_eq_some_iff.mp e1
  obtain ⟨⟨es', s2⟩, e3, e1⟩ := Option.bind_eq_some_iff.mp e1
  obtain ⟨⟨er, bg'⟩, e4, e1⟩ := Option.bind_eq_some_iff.mp e1
  cases e1
  refine o1 β P σ H G a ds s1 R e2 _ fun vs H1 G1 x1 R1 i1 => ?_
  refine o2 β P σ H1 G1 s1 es' s2 R1 e3 _ fun zs H2 G2 x2 R2 i2 => ?_
  have l1 := hn _ _ _ e2
  have l2 := hn2 _ _ _ e3
  refine ⟨by rw [i1.len]; exact l1, by rw [i2.len]; exact l2, fun y dx hy hdx hne => ?_⟩
  obtain ⟨R3, gx, sx, R4⟩ := made_rel (C := C) R2 hy hdx hne
  rw [hgV, List.cons_append, List.cons_append]
  refine ⟨β, shut β (upd H2 dx (.own y)) G2, G2, ds ++ es' ++ dd, s2.bag, er, bg', y, C, dx, vs ++ zs ++ dvs, rfl, ?_, ((IsL.mono x2 _ _ i1).append i2).append (hd β G2), R3, hC, upd_same, gx, sx, e4, ?_⟩
  · have h3 := (hd β G2).len
    have h4 := i1.len
    have h5 := i2.len
    simp only [List.length_cons, List.length_append]
    omega
  · exact fun C dd H' G' x3 R5 ec gd => q C dd H' G' ((x1.trans x2).trans x3) (R4.back x3 R5) ec gd
end
omit [DL.Me] in
def mCallX (g : List Dt → Option Dt) (f : DMX) : DMX := fun s => (f s).bind fun p => match p.1 with
  | .inl d => (g [d]).map fun y => (.inl y, p.2)
  | .inr er => some (.inr er, p.2)
section
variable {X : Cx} {W : XK} {id : String} {r : List V → Hp → VK → Prop} {g : List Dt → Option Dt} {x : Str} {e : Expr} {p pos : Pos} {f : DMX}
theorem dex_callB (hc : CallR X (.builtin id) r) (hr : Rok X.K r g) (hg : Gl X x) (hm : X.mg x = none) (hv : bootBuiltins x = some (.builtin id)) (ha : DEX X W e f) (hn : x ≠ "__name__" := by decide) (hdb : (x == ("__debug__" : Str)) = false := by decide)
    (he : starEach [e] X.env = (false, eval e X.env) :: starEach [] X.env := by rfl) (hpl : (backTo pos (starEach [] X.env)).any (·.1) = false := by rfl) : DEX X W (.Call (.Name x p) [e] [] pos) (mCallX g f) := by
  have pe := pe_callB (p := p) (pos := pos) hc hg hm hv (pa_cons ha pa_nil he) hn hdb he hpl
  refine ⟨fun pins s σ H Q I h => pe.run pins s σ H Q I ?_⟩
  obtain ⟨β, P, G, a, r', a', R, e1, q⟩ := h
  unfold mCallX at e1
  obtain ⟨⟨y, s1⟩, e2, e1⟩ := Option.bind_eq_some_iff.mp e1
  refine ⟨β, P, G, a, y, s1, R, e2, ?_⟩
  cases y with
  | inl d =>
    dsimp only at e1
    obtain ⟨z, e3, e4⟩ := Option.map_eq_some_iff.mp e1
    cases e4
    exact fun v H1 G1 x1 R1 i1 => hr β P σ H1 G1 _ [v] [d] z R1 (isl_cons.mpr ⟨v, [], rfl, i1, isl_nil.mpr rfl⟩) e3 _ fun v' H2 G2 x2 R2 i2 => q v' H2 G2 (x1.trans x2) R2 i2
  | inr er =>
    cases e1
    exact q
end
end DJ
set_option maxHeartbeats 4000000
namespace DJ
open PySem PySem.Spec PySem.Calls PyProof.Rows PySem.W L2 DL DI DX DF
variable [DL.Tabs] [DL.Me]
def spEmX (K : Frag) (c : Str) (d0 : Dt) (F : FIX) : Sp := fun vs H Q E => ∃ (β : Addr) (P G : Hp) (ds bg : List Dt) (ws : List V) (C : Addr) (er : Er) (bg' : List Dt), vs = .ref C :: ws ∧ InsC K c C ∧ ws.length ≤ 1000 ∧ IsL K β G ds ws ∧ Rel K β P [] H G ⟨[], bg⟩ ∧ F [.tup ds, d0] bg = some (er, bg') ∧ errAt K β P [] G ⟨[], bg'⟩ E er
section
variable {P : Program} {w : World} {K : Frag} {mg : Str → Option Value} {base : Heap}
theorem fn_okEmX {qual qq x1 x2 c : Str} {st : Stmt} {f g C : Addr} {fd gd : FuncData} {ps : List Str} {k : Nat} {F : FIX} {d0 : Dt} {dv0 : V} {du : Value} {p1 p2 p3 pos : Pos} (Fu : Fun K qual qq st f fd) (S : FnScope [x1, x2] ([x1] ++ [x2]) (defScope st)) (hbody : defBody st = [.Return (some (.Call (.Name x1 p1) [.Name x2 p2] [] p3)) pos])
    (hbind : ∀ (kV doc pm : Value) (an : Option Addr) (cdv ct : Value) (us rest : List Value), us.length = 1 → bindArgs (PySem.W.fnOf qual qq (defArgs st) (defBody st) (defScope st) .none kV doc pm an cdv ct) ⟨us ++ rest, []⟩ = (newTuple rest >>= fun t => pure ([x1].zip us ++ [(x2, t)])))
    (hC : InsC K c C) (M : Mk K C g) (FF : FnOk P w K mg base (L2.CX P w) k g gd ps (spIX K c 3 F)) (hb : Binds K gd ps [du]) (hdu : RelV dv0 du) (hd0 : ∀ β G, IsD K β G d0 dv0)
    (hv : ∀ (cdv : Value) (A : Around) (outer : List Env) (s : Shared) (H : Hp) (E : XK), let X := cxOf (L2.CX P w) P w K mg base [x1, x2] qq (defScope st) f cdv A outer s H E
      Vis X.env.scope x1 ∧ PE X (.Name x2 p2) (tVar 1) ∧ starEach [.Name x2 p2] X.env = (false, eval (.Name x2 p2) X.env) :: starEach [] X.env ∧ (backTo p3 (starEach [] X.env)).any (·.1) = false)
    (hdb : (x1 == ("__debug__" : Str)) = false := by decide) (hdc : (x1 == ("__classdict__" : Str)) = false := by decide) : FnR P w K mg base (L2.CX P w) (k + 2) f (spEmX K c d0 F) := by
  obtain ⟨oc, od, kV, doc, pm, an, cdv, ct, osl, rfl, lk, hcd⟩ := Fu.ex
  have big := StX.fn_star (P := P) (w := w) (mg := mg) (base := base) (k := k + 1) (CX := L2.CX P w) (ps := [x1]) (pv := x2) (N := [x1, x2]) (sp := fun vs H Q E => ∃ (β : Addr) (P G : Hp) (ds bg : List Dt) (v1 : V) (er : Er) (bg' : List Dt), vs = [.ref C, v1] ∧ IsD K β G (.tup ds) v1 ∧ Rel K β P [] H G ⟨[], bg⟩ ∧ F [.tup ds, d0] bg = some (er, bg') ∧
      errAt K β P [] G ⟨[], bg'⟩ E er) lk hcd S StX.cxUp
    (fun us rest hl => hbind kV doc pm an cdv ct us rest hl)
    (fun A outer s H vs Q E hr h => by
      obtain ⟨β, PP, G, ds, bg, v1, er, bg', rfl, i1, R, e, q⟩ := h
      obtain ⟨hv1, hv2, hv3, hv4⟩ := hv cdv A outer s H E
      rw [hbody]
      have tk : Takes (cxOf (L2.CX P w) P w K mg base [x1, x2] qq (defScope st) f cdv A outer s H E) (fun cls d _ H => E cls d H) := takes_of rfl rfl rfl rfl
      refine ⟨_, pss_one (ps_ret (pe_makeL (i := 0) M FF hr hb (.cons hdu .nil) (passes_call (E := E) tk fun _ _ _ _ h => h) (by rfl) hv1 (pa_cons hv2 pa_nil hv3) hdb hdc hv3 hv4)), rfl, ?_⟩
      have R2 : Rel K β PP (L2.start [x1, x2] [V.ref C, v1]) H G ⟨[none, some (.dat (.tup ds))], bg⟩ := rel_two R i1
      refine ⟨v1, rfl, fun y dx hy hdx hne => ?_⟩
      obtain ⟨R3, gx, sx, R4⟩ := made_rel (C := C) R2 hy hdx hne
      refine ⟨β, shut β (upd H dx (.own y)) G, G, [.tup ds, d0], bg, er, bg', y, C, dx, [v1, dv0], rfl, rfl, isl_cons.mpr ⟨v1, [dv0], rfl, i1, isl_cons.mpr ⟨dv0, [], rfl, hd0 β G, isl_nil.mpr rfl⟩⟩, R3, hC, upd_same, gx, sx, e, ?_⟩
      exact fun C dd H' G' x2 R5 ec gd => q C dd H' G' x2 (R4.back x2 R5).leave ec gd)
  intro A outer s H us vs Q E hr e0 r h
  obtain ⟨β, PP, G, ds, bg, ws, C', er, bg', rfl, hC', hl, i, R, e, q⟩ := h
  obtain rfl := insC_eq hC hC'
  refine big A outer s H us _ Q E hr e0 r ⟨[.ref C'], ws, rfl, rfl, le_line hl, fun p hp => ?_⟩
  have xx : Ext G (upd G p (.tup ws)) := Ext.new (R.free hp)
  exact ⟨β, PP, upd G p (.tup ws), ds, bg, .ref p, er, bg', rfl, is_tup.mpr ⟨p, ws, rfl, .inl (.inl upd_same), IsL.mono xx _ _ i⟩, R.new hp, e, fun C dd H' G' x R' ec gd => q C dd H' G' (xx.trans x) R' ec gd⟩
end
omit [DL.Me] in
def mEmX (F : FIX) (d0 : Dt) (f : DM (List Dt)) : DMX := fun s => (f s).bind fun p => if p.1.length ≤ 1000 then (F [.tup p.1, d0] p.2.bag).bind fun q => some (.inr q.1, { p.2 with bag := q.2 }) else none
section
variable {X : Cx} {W : XK} {k : Nat} {f C p : Addr} {mc : Value} {c m : Str} {F : FIX} {d0 : Dt} {px apos pos : Pos} {e : Expr} {es : List Expr} {g : DM (List Dt)}
theorem dex_em {pl : Sem Bool} (hC : InsC X.K c C) (r : ClX.CRead X.K C mc) (cm : ClX.CMet X.K C mc m p f) (FF : FnR X.prog X.w X.K X.mg X.base (L2.CX X.prog X.w) k f (spEmX X.K c d0 F)) (hr : Room k X.A) (hg : Gl X c) (hm : X.mg c = some (.ref C)) (tk : Takes X (fun cls d _ H => W cls d H)) (ha : DA X (e :: es) g) (hdb : (c == ("__debug__" : Str)) = false := by decide)
    (hst : starEach (e :: es) X.env = (false, eval e X.env) :: starEach es X.env := by rfl) (hpl : (backTo pos (starEach es X.env)).any (·.1) = false := by rfl)
    (ht : eval (.Call (.Attribute (.Name c px) m apos) (e :: es) [] pos) X.env = (do
      let ov ← eval (.Name c px) X.env
      standAt apos.atName
      let (f, first) ← holding [ov] (getMethod ov m pl)
      callWith pos f first (backTo pos (starEach (e :: es) X.env)) (backToKw pos (keywordEach [] X.env))) := by rfl) :
    DEX X W (.Call (.Attribute (.Name c px) m apos) (e :: es) [] pos) (mEmX F d0 g) := by
  obtain ⟨t, pa, o⟩ := ha
  have pc : PE X (.Name c px) (tC (.ref C)) := pe_glob hg hm rfl hdb
  have pe := ClX.pe_cmeth pc r cm FF hr (passes_call (E := W) tk fun _ _ _ _ h => h) pa hst hpl ht
  refine ⟨fun pins s σ H Q I h => pe.run pins s σ H Q I ⟨rfl, ?_⟩⟩
  obtain ⟨β, P, G, a, r, a', R, e1, q⟩ := h
  unfold mEmX at e1
  obtain ⟨⟨ds, s1⟩, e2, e1⟩ := Option.bind_eq_some_iff.mp e1
  dsimp only at e1
  split at e1
  · rename_i hl
    obtain ⟨⟨er, bg'⟩, e3, e1⟩ := Option.bind_eq_some_iff.mp e1
    cases e1
    refine o β P σ H G a ds s1 R e2 _ fun vs H1 G1 x1 R1 i1 => ?_
    exact ⟨β, shut β H1 G1, G1, ds, s1.bag, vs, C, er, bg', rfl, hC, by rw [i1.len]; exact hl, i1, R1.callee, e3, fun C dd H' G' x2 R2 ec gd => q C dd H' G' (x1.trans x2) (R1.back x2 R2) ec gd⟩
  · cases e1
end
end DJ
set_option maxHeartbeats 4000000
namespace SD
open PySem PyProof.Rows SS
/-- how many differ among the first i -/
def cnt (xs : List Str) : Nat → Nat
  | 0 => 0
  | i + 1 => if among xs i (xs.getD i Str.empty) = true then cnt xs i else cnt xs i + 1
theorem cnt_le (xs : List Str) : ∀ i, cnt xs i ≤ i
  | 0 => Nat.le_refl _
  | i + 1 => by
    have := cnt_le xs i
    unfold cnt
    split <;> omega
theorem cnt_all {xs : List Str} (nd : xs.Nodup) : ∀ i, i ≤ xs.length → cnt xs i = i
  | 0, _ => rfl
  | i + 1, h => by
    unfold cnt
    rw [among_new nd (by omega), if_neg Bool.false_ne_true, cnt_all nd i (by omega)]
section
variable {prog : Program} {w : World} {A : Around} {R : Result → Shared → Prop} {I : Addr} {fp wr : List Addr} {G : Array GenState → Array GenState → Prop} {n : Nat} {P : Nat → Value → Prop} {St : Nat → Shared → Prop}
theorem filledR (W : WalksS prog w A.in1 I fp wr G n P St) {S : Addr} (out : S ∉ fp) {xs : List Str} (len : xs.length = n) (few : n ≤ 60) (val : ∀ i v, P i v → ∃ t, v = .str (xs.getD i Str.empty) t)
    {s0 : Shared} (fin : ∀ s', Moved (S :: wr) G s0 s' → s'.heap.SetOf (PySem.strKind prog w) S (among xs n) (cnt xs n) → R (.ok (.ret .none)) s') :
    ∀ (d i : Nat), n - i = d → i ≤ n → ∀ s, (i = 0 → s = s0) → (0 < i → Moved (S :: wr) G s0 s) → St i s → s.heap.SetOf (PySem.strKind prog w) S (among xs i) (cnt xs i) → codeAny (model prog w) A (.builtin "set.update.loop" ⟨[.ref S, .ref I], []⟩) R s := by
  have sub : ∀ b ∈ wr, b ∈ S :: wr := fun b hb => List.mem_cons_of_mem _ hb
  have far : S ∉ wr := fun h => out (W.sub _ h)
  have stay : ∀ {i : Nat} {s s' : Shared}, Moved wr G s s' → s.heap.SetOf (PySem.strKind prog w) S (among xs i) (cnt xs i) → s'.heap.SetOf (PySem.strKind prog w) S (among xs i) (cnt xs i) := fun m ⟨o, es, ep, t, ho, r⟩ => ⟨o, es, ep, t, m.heap S _ far ho, r⟩
  intro d
  induction d with
  | zero =>
    intro i hd hi s h0 h1 hst hs
    obtain rfl : i = n := by omega
    refine codeAny_builtin PyProof.Rows.F.entry_set_update_loop ?_
    rw [Around.under_plainId PyProof.Rows.F.plain_set_update_loop _]
    refine wpAny_bind (m := pyNext (.ref I)) (W.done s _ _ hst fun s1 m => wpAny_pure (fin s1 ?_ (stay m hs)))
    by_cases z : i = 0
    · rw [← h0 z]; exact m.mono sub
    · exact Moved.trans W.gtrans (h1 (by omega)) (m.mono sub)
  | succ d ih =>
    intro i hd hi s h0 h1 hst hs
    have lt : i < n := by omega
    refine codeAny_builtin PyProof.Rows.F.entry_set_update_loop ?_
    rw [Around.under_plainId PyProof.Rows.F.plain_set_update_loop _]
    refine wpAny_bind (m := pyNext (.ref I)) (W.item i s _ _ lt hst fun v s1 hP hst1 m => ?_)
    obtain ⟨t, rfl⟩ := val i v hP
    have m1 : Moved (S :: wr) G s0 s1 := by
      by_cases z : i = 0
      · rw [← h0 z]; exact m.mono sub
      · exact Moved.trans W.gtrans (h1 (by omega)) (m.mono sub)
    have hs1 := stay m hs
    show wpAny _ _ (holding [Value.str (xs.getD i Str.empty) t] (setAdd S (.str (xs.getD i Str.empty) t)) >>= _) _ _ s1
    refine wpAny_bind (wpAny_holding (?_ : wpAny _ _ (setAdd S _) _ _ _))
    unfold setAdd
    refine wpAny_holding (wpAny_bind ((PySem.strKind prog w).pyHash (k := xs.getD i Str.empty) (strKind_is _ _ _ _) ?_))
    refine wpAny_setAddHashed_of (knd := PySem.strKind prog w) (s := { s1 with toks := s1.toks + 1 }) (strKind_is _ _ _ _) rfl hs1 (by have := cnt_le xs i; unfold scanBound; omega) fun h2 sb hs2 => ?_
    have hs3 : h2.SetOf (PySem.strKind prog w) S (among xs (i + 1)) (cnt xs (i + 1)) :=
      SetOf_congr hs2 (fun z => (among_succ (by omega) z).symm) rfl
    have kp : ∀ b o, b ∉ S :: wr → s1.heap.get? b = some o → h2.get? b = some o := fun b o hb e => (sb.2 b fun z => hb (by rw [z]; exact List.mem_cons_self)).trans e
    refine wpAny_pure ⟨plainId_quiet PyProof.Rows.F.plain_set_update_loop _, ih (i + 1) (by omega) lt _ (fun z => absurd z (Nat.succ_ne_zero i)) (fun _ => ?_) ?_ hs3⟩
    · exact m1.then_heap (Nat.le_succ _) kp
    · exact W.frame _ s1 _ _ hst1 (Nat.le_succ _) fun b hb o e => (sb.2 b fun z => out (z ▸ hb)).trans e
end
section
variable {prog : Program} {w : World} {A : Around} {E : Value → Shared → Prop} {s : Shared} {l : Addr} {zs : Array Value} {xs : List Str} {Q : Value → Shared → Prop}
set_option maxHeartbeats 8000000 in
/-- set(t), t a tuple of different texts -/
theorem call_set_tupR (hh : A.handled = none) (ht : s.heap.IsTuple l zs) (hx : StrsAre zs.toList xs) (few : xs.length ≤ 60)
    (h : ∀ (g : Heap) (tk : Nat), g.SetOf (PySem.strKind prog w) s.heap.objs.size (among xs xs.length) (cnt xs xs.length) → (∀ b o, b < s.heap.objs.size → s.heap.get? b = some o → g.get? b = some o) → Q (.ref s.heap.objs.size) { s with heap := g, toks := tk }) :
    wpAny (model prog w) A (call (.type "set") [.ref l]) Q E s := by
  have hmade := PySem.F.called_set.made; have hsub := PySem.F.called_set.sub
  obtain ⟨c, tl, hmro⟩ := PySem.F.called_set.mro
  have ex := Code.quiet_builtin (id := "type.__call__") ⟨[Value.type "set", .ref l], []⟩ (by decide +kernel)
  refine wpAny_call (codeAny_of_tree (?_ : wpAny _ _ (callAny (.type "set") _) _ _ _))
  refine wpAny_pure ⟨ex, codeAny_builtin PySem.F.entry_type_call ?_⟩
  rw [Around.under_plain (weight_type_call_type "set" [.ref l] []) rfl]
  have h1 := PySem.F.called_set.notType; have h2 := PySem.F.called_set.canCreate; have hct := PySem.F.typeCall_set_1 (.ref l)
  repeat (any_goals (first | wp_step | assumption))
  refine codeAny_mono (code_set_new_1 (.ref l) (E := E) (Q₁ := fun ob s1 => ∃ b : Bool, ob = .ref s.heap.objs.size ∧ s1 = { s with heap := s.heap.push (emptySet b) }) fun b => ⟨b, rfl, rfl⟩) fun r s1 hr => ?_
  rcases r with e | f
  · exact hr
  cases f with
  | ret ob =>
    obtain ⟨b, rfl, rfl⟩ := hr
    have new : (s.heap.push (emptySet b)).get? s.heap.objs.size = some (emptySet b) := Heap.get?_push_size _ rfl
    have hT : Shared.TypeIs { s with heap := s.heap.push (emptySet b) } (.ref s.heap.objs.size) "set" := ⟨_, new, rfl⟩
    have hli := PySem.F.called_set.init.lookup; have hbi := PySem.F.called_set.init.bind (.ref s.heap.objs.size)
    repeat (any_goals (first | wp_step | assumption))
    refine codeAny_mono (codeAny_call_builtin (R := wants (fun v s2 => v = .none ∧ ∃ g tk, s2 = { s with heap := g, toks := tk } ∧ g.SetOf (PySem.strKind prog w) s.heap.objs.size (among xs xs.length) (cnt xs xs.length) ∧ (∀ b o, b < s.heap.objs.size → s.heap.get? b = some o → g.get? b = some o)) E)
      PySem.F.called_set.init.plain PySem.F.entry_set_init (check_set_init_1 hT ?_)) fun r2 s2 hr2 => ?_
    · obtain ⟨⟨oc, od, odt, osl⟩, ho, hcl, m, hdt⟩ := ht
      simp only at hcl hdt
      subst hcl hdt
      have there : (s.heap.push (emptySet b)).get? l = some { cls := .type "tuple", dict := od, data := .seq zs m, slots := osl } := Heap.get?_push_of_some _ ho
      have tup : (s.heap.push (emptySet b)).IsTuple l zs := ⟨_, there, rfl, m, rfl⟩
      have t1 := PySem.F.sub_tuple_set; have t2 := PySem.F.sub_tuple_frozenset
      have t3 : (Value.type "tuple" == Value.type "dict") = false := by decide
      unfold Builtin.«set.__init__» Builtin.Frozenset.updateFrom noKeywords
      generalize hp : pyIter = it
      wp_walk
      subst hp
      refine wpAny_pyIter_tuple tup (wpAny_bind (wpAny_runValue ?_))
      have lS : l < s.heap.objs.size := Heap.lt_size ho
      have hz : (s.heap.push (emptySet b)).objs.size = s.heap.objs.size + 1 := Heap.size_push ..
      have lI : l ≠ (s.heap.push (emptySet b)).objs.size := by rw [hz]; exact Nat.ne_of_lt (Nat.lt_succ_of_lt lS)
      have len : xs.length = zs.size := by rw [← StrsAre.len_eq hx, Array.length_toList]
      have W := (Walks.tuple (prog := prog) (w := w) (A := A.in1.in1.in1) (by simp [hh]) _ l lI zs).toS
      refine filledR (xs := xs) W (S := s.heap.objs.size) ?_ len (by omega) (fun i v hv => strs_at hx i v (by rw [Array.getElem?_toList]; exact hv)) (fun s3 mv set3 => ?_) (zs.size - 0) 0 rfl (Nat.zero_le _) _ (fun _ => rfl) (fun z => absurd z (Nat.lt_irrefl 0)) ⟨⟨_, Heap.get?_push_size _ rfl, rfl, rfl⟩, tup.push _⟩ ?_
      · rw [hz]
        simp only [List.mem_cons, List.not_mem_nil, or_false, not_or]
        exact ⟨Nat.ne_of_lt (Nat.lt_succ_self _), Nat.ne_of_gt lS⟩
      · obtain ⟨g, gg, dd, tk, os⟩ := s3
        obtain ⟨e1, e2, e3⟩ : gg = s.gens ∧ dd = s.drawn ∧ os = s.os := ⟨mv.gens, mv.drawn, mv.os⟩
        subst e1 e2 e3
        show wpAny _ _ _ _ _ _
        refine wpAny_pure (?_ : wpAny _ _ (ret Value.none) _ _ _)
        refine wpAny_pure ⟨rfl, g, tk, rfl, by rw [len]; exact set3, fun a o ha e => ?_⟩
        refine mv.heap a o (fun hm => ?_) (Heap.get?_push_of_some _ (Heap.get?_push_of_some _ e))
        rw [hz] at hm
        simp only [List.mem_cons, List.not_mem_nil, or_false] at hm
        rcases hm with e1 | e1
        · rw [e1] at ha; exact absurd ha (Nat.lt_irrefl _)
        · rw [e1] at ha; exact absurd ha (Nat.not_lt.mpr (Nat.le_succ _))
      · have got : ((s.heap.push (emptySet b)).push { cls := .type "tuple_iterator", data := .fields #[.ref l, .int 0 0] }).get? s.heap.objs.size = some (emptySet b) := Heap.get?_push_of_some _ new
        exact SetOf_congr ((setObjOf_fresh (knd := PySem.strKind prog w) b).setOf got (by unfold scanBound; omega)) (fun _ => rfl) rfl
    · rcases r2 with e | f2
      · exact hr2
      cases f2 with
      | ret v =>
        obtain ⟨rfl, g, tk, rfl, q1, q2⟩ := hr2
        repeat (any_goals (first | wp_step | assumption))
        exact h g tk q1 q2
      | _ => exact hr2.elim
  | _ => exact hr.elim
set_option maxHeartbeats 8000000 in
/-- set(t), t a list of different texts -/
theorem call_set_lstR (hh : A.handled = none) (ht : s.heap.IsList l zs) (hx : StrsAre zs.toList xs) (few : xs.length ≤ 60)
    (h : ∀ (g : Heap) (tk : Nat), g.SetOf (PySem.strKind prog w) s.heap.objs.size (among xs xs.length) (cnt xs xs.length) → (∀ b o, b < s.heap.objs.size → s.heap.get? b = some o → g.get? b = some o) → Q (.ref s.heap.objs.size) { s with heap := g, toks := tk }) :
    wpAny (model prog w) A (call (.type "set") [.ref l]) Q E s := by
  have hmade := PySem.F.called_set.made; have hsub := PySem.F.called_set.sub
  obtain ⟨c, tl, hmro⟩ := PySem.F.called_set.mro
  have ex := Code.quiet_builtin (id := "type.__call__") ⟨[Value.type "set", .ref l], []⟩ (by decide +kernel)
  refine wpAny_call (codeAny_of_tree (?_ : wpAny _ _ (callAny (.type "set") _) _ _ _))
  refine wpAny_pure ⟨ex, codeAny_builtin PySem.F.entry_type_call ?_⟩
  rw [Around.under_plain (weight_type_call_type "set" [.ref l] []) rfl]
  have h1 := PySem.F.called_set.notType; have h2 := PySem.F.called_set.canCreate; have hct := PySem.F.typeCall_set_1 (.ref l)
  repeat (any_goals (first | wp_step | assumption))
  refine codeAny_mono (code_set_new_1 (.ref l) (E := E) (Q₁ := fun ob s1 => ∃ b : Bool, ob = .ref s.heap.objs.size ∧ s1 = { s with heap := s.heap.push (emptySet b) }) fun b => ⟨b, rfl, rfl⟩) fun r s1 hr => ?_
  rcases r with e | f
  · exact hr
  cases f with
  | ret ob =>
    obtain ⟨b, rfl, rfl⟩ := hr
    have new : (s.heap.push (emptySet b)).get? s.heap.objs.size = some (emptySet b) := Heap.get?_push_size _ rfl
    have hT : Shared.TypeIs { s with heap := s.heap.push (emptySet b) } (.ref s.heap.objs.size) "set" := ⟨_, new, rfl⟩
    have hli := PySem.F.called_set.init.lookup; have hbi := PySem.F.called_set.init.bind (.ref s.heap.objs.size)
    repeat (any_goals (first | wp_step | assumption))
    refine codeAny_mono (codeAny_call_builtin (R := wants (fun v s2 => v = .none ∧ ∃ g tk, s2 = { s with heap := g, toks := tk } ∧ g.SetOf (PySem.strKind prog w) s.heap.objs.size (among xs xs.length) (cnt xs xs.length) ∧ (∀ b o, b < s.heap.objs.size → s.heap.get? b = some o → g.get? b = some o)) E)
      PySem.F.called_set.init.plain PySem.F.entry_set_init (check_set_init_1 hT ?_)) fun r2 s2 hr2 => ?_
    · obtain ⟨⟨oc, od, odt, osl⟩, ho, hcl, m, hdt⟩ := ht
      simp only at hcl hdt
      subst hcl hdt
      have there : (s.heap.push (emptySet b)).get? l = some { cls := .type "list", dict := od, data := .seq zs m, slots := osl } := Heap.get?_push_of_some _ ho
      have tup : (s.heap.push (emptySet b)).IsList l zs := ⟨_, there, rfl, m, rfl⟩
      have t1 := PySem.F.sub_list_set; have t2 := PySem.F.sub_list_frozenset
      have t3 : (Value.type "list" == Value.type "dict") = false := by decide
      unfold Builtin.«set.__init__» Builtin.Frozenset.updateFrom noKeywords
      generalize hp : pyIter = it
      wp_walk
      subst hp
      refine wpAny_pyIter_list tup (wpAny_bind (wpAny_runValue ?_))
      have lS : l < s.heap.objs.size := Heap.lt_size ho
      have hz : (s.heap.push (emptySet b)).objs.size = s.heap.objs.size + 1 := Heap.size_push ..
      have lI : l ≠ (s.heap.push (emptySet b)).objs.size := by rw [hz]; exact Nat.ne_of_lt (Nat.lt_succ_of_lt lS)
      have len : xs.length = zs.size := by rw [← StrsAre.len_eq hx, Array.length_toList]
      have W := (Walks.list (prog := prog) (w := w) (A := A.in1.in1.in1) (by simp [hh]) _ l lI zs).toS
      refine filledR (xs := xs) W (S := s.heap.objs.size) ?_ len (by omega) (fun i v hv => strs_at hx i v (by rw [Array.getElem?_toList]; exact hv)) (fun s3 mv set3 => ?_) (zs.size - 0) 0 rfl (Nat.zero_le _) _ (fun _ => rfl) (fun z => absurd z (Nat.lt_irrefl 0)) ⟨⟨_, Heap.get?_push_size _ rfl, rfl, rfl⟩, tup.push _⟩ ?_
      · rw [hz]
        simp only [List.mem_cons, List.not_mem_nil, or_false, not_or]
        exact ⟨Nat.ne_of_lt (Nat.lt_succ_self _), Nat.ne_of_gt lS⟩
      · obtain ⟨g, gg, dd, tk, os⟩ := s3
        obtain ⟨e1, e2, e3⟩ : gg = s.gens ∧ dd = s.drawn ∧ os = s.os := ⟨mv.gens, mv.drawn, mv.os⟩
        subst e1 e2 e3
        show wpAny _ _ _ _ _ _
        refine wpAny_pure (?_ : wpAny _ _ (ret Value.none) _ _ _)
        refine wpAny_pure ⟨rfl, g, tk, rfl, by rw [len]; exact set3, fun a o ha e => ?_⟩
        refine mv.heap a o (fun hm => ?_) (Heap.get?_push_of_some _ (Heap.get?_push_of_some _ e))
        rw [hz] at hm
        simp only [List.mem_cons, List.not_mem_nil, or_false] at hm
        rcases hm with e1 | e1
        · rw [e1] at ha; exact absurd ha (Nat.lt_irrefl _)
        · rw [e1] at ha; exact absurd ha (Nat.not_lt.mpr (Nat.le_succ _))
      · have got : ((s.heap.push (emptySet b)).push { cls := .type "list_iterator", data := .fields #[.ref l, .int 0 0] }).get? s.heap.objs.size = some (emptySet b) := Heap.get?_push_of_some _ new
        exact SetOf_congr ((setObjOf_fresh (knd := PySem.strKind prog w) b).setOf got (by unfold scanBound; omega)) (fun _ => rfl) rfl
    · rcases r2 with e | f2
      · exact hr2
      cases f2 with
      | ret v =>
        obtain ⟨rfl, g, tk, rfl, q1, q2⟩ := hr2
        repeat (any_goals (first | wp_step | assumption))
        exact h g tk q1 q2
      | _ => exact hr2.elim
  | _ => exact hr.elim
end
end SD
namespace DJ
open PySem PySem.Spec PyProof.Rows L2 DL DT
variable [DL.Tabs] [DL.Me]
omit [DL.Me] in
def tLenSetR (K : PySem.W.Frag) (ta : TE) : TE := fun σ H Q => ta σ H fun x H1 => ∃ (l : Addr) (xs : List Str), x = .ref l ∧ (SqL K H1 l (xs.map V.str) ∨ SqT K H1 l (xs.map V.str)) ∧ xs.length ≤ 60 ∧ Q (.int (SD.cnt xs xs.length : Nat)) H1
theorem pe_lenSetR {X : Cx} {a : Expr} {ta : TE} {p p2 pos2 pos : Pos} (hc : X.calm = true) (hg : Gl X "len") (hm : X.mg "len" = none) (hg2 : Gl X "set") (hm2 : X.mg "set" = none) (ha : PE X a ta)
    (na : starEach [a] X.env = (false, eval a X.env) :: starEach [] X.env := by rfl) : PE X (.Call (.Name "len" p) [.Call (.Name "set" p2) [a] [] pos2] [] pos) (tLenSetR X.K ta) := by
  refine ⟨fun pins s σ H Q I h => Call_ (ld_blt I hg hm boot_len (PyProof.Rows.callWith_builtin1 (PyProof.Rows.args_cons ?_ rfl) rfl rfl))⟩
  refine Call_ (ld_blt I hg2 hm2 boot_set (PyProof.Rows.callWith_type1 (PyProof.Rows.args_cons (thn (ha.run pins s σ H _ I h) fun v s1 ⟨x, H1, I1, r1, q1⟩ => PyProof.Rows.args_nil ?_) na) na rfl))
  obtain ⟨l, xs, rfl, hq, few, q1⟩ := q1
  cases r1
  rcases hq with hq | hq
  · obtain ⟨its, r, pl, hz⟩ := I1.list hq
    refine SD.call_set_lstR (I1.ok.hd hc) pl.isList (by simpa using strsAre_of r) few fun g tk ⟨o, es, ep, t, ho, hex, hd, _, _, _, hf, hn⟩ kp => PyProof.Rows.args_nil ?_
    have I2 : L2.Inv X pins σ H1 { s1 with heap := g, toks := tk } := I1.kept fun b o e => kp b o (Heap.lt_size e) e
    exact call_len_set ho hex hd hf (by have := SD.cnt_le xs xs.length; rw [hn]; omega) ⟨.int (SD.cnt xs xs.length : Nat), H1, I2.tok _, ⟨_, by rw [hn]⟩, q1⟩
  · obtain ⟨its, r, pl, hz⟩ := I1.tuple hq
    refine SD.call_set_tupR (I1.ok.hd hc) pl (by simpa using strsAre_of r) few fun g tk ⟨o, es, ep, t, ho, hex, hd, _, _, _, hf, hn⟩ kp => PyProof.Rows.args_nil ?_
    have I2 : L2.Inv X pins σ H1 { s1 with heap := g, toks := tk } := I1.kept fun b o e => kp b o (Heap.lt_size e) e
    exact call_len_set ho hex hd hf (by have := SD.cnt_le xs xs.length; rw [hn]; omega) ⟨.int (SD.cnt xs xs.length : Nat), H1, I2.tok _, ⟨_, by rw [hn]⟩, q1⟩
omit [DL.Me] in
def mLenSetR (f : DM Dt) : DM Dt := fun s => (f s).bind fun p => match p.1 with
  | .lst l => (txtsD l).bind fun zs => if zs.length ≤ 60 then some (.int (SD.cnt zs zs.length : Nat), p.2) else none
  | .tup l => (txtsD l).bind fun zs => if zs.length ≤ 60 then some (.int (SD.cnt zs zs.length : Nat), p.2) else none
  | _ => none
theorem de_lenSetR {X : Cx} {a : Expr} {f : DM Dt} {p p2 pos2 pos : Pos} (hc : X.calm = true) (hg : Gl X "len") (hm : X.mg "len" = none) (hg2 : Gl X "set") (hm2 : X.mg "set" = none) (ha : DE X a f)
    (na : starEach [a] X.env = (false, eval a X.env) :: starEach [] X.env := by rfl) : DE X (.Call (.Name "len" p) [.Call (.Name "set" p2) [a] [] pos2] [] pos) (mLenSetR f) := by
  obtain ⟨t, p1, o1⟩ := ha
  refine ⟨_, pe_lenSetR hc hg hm hg2 hm2 p1 na, fun β P σ H G s d s' R e Q q => ?_⟩
  unfold mLenSetR at e
  obtain ⟨⟨x, s1⟩, e1, e⟩ := Option.bind_eq_some_iff.mp e
  cases x with
  | lst l =>
    obtain ⟨zs, e2, e⟩ := Option.bind_eq_some_iff.mp e
    split at e
    · rename_i c
      cases e
      refine o1 β P σ H G s _ s1 R e1 _ fun v H1 G1 x1 R1 i1 => ?_
      obtain ⟨b, vs, rfl, h1, h2⟩ := is_lst.mp i1
      exact ⟨b, zs, rfl, .inl (by rw [← txts_of e2 h2]; exact .inl (.inl (R1.gh _ _ h1))), c, q _ H1 G1 x1 R1 (is_int.mpr rfl)⟩
    · cases e
  | tup l =>
    obtain ⟨zs, e2, e⟩ := Option.bind_eq_some_iff.mp e
    split at e
    · rename_i c
      cases e
      refine o1 β P σ H G s _ s1 R e1 _ fun v H1 G1 x1 R1 i1 => ?_
      obtain ⟨b, vs, rfl, h1, h2⟩ := is_tup.mp i1
      exact ⟨b, zs, rfl, .inr (by rw [← txts_of e2 h2]; exact ext_t R1.gh h1), c, q _ H1 G1 x1 R1 (is_int.mpr rfl)⟩
    · cases e
  | _ => cases e
end DJ
namespace DJ
open PySem PySem.Spec PyProof.Rows L2
theorem fundK_mk {K : PySem.W.Frag} {x qual p1 p2 : Str} {st : Stmt} {f D e1 e2 : Addr} {oc doc pm cdv ct : Value} {od an : Option Addr} {osl : Array (Option Value)}
    (l : K.lookup f = some ⟨oc, od, .func (PySem.W.fnOf x qual (defArgs st) (defBody st) (defScope st) .none (.ref D) doc pm an cdv ct), osl⟩) (c : PySem.W.codeIn K cdv qual = true) (k : PySem.W.keepIn K (.ref f) = true)
    (h1 : PySem.W.nsIn K D p1 = some (some (.ref e1))) (h2 : PySem.W.nsIn K D p2 = some (some (.ref e2))) :
    FunD K x qual (defArgs st) (defBody st) (defScope st) [] [(p1, .ref e1), (p2, .ref e2)] f (PySem.W.fnOf x qual (defArgs st) (defBody st) (defScope st) .none (.ref D) doc pm an cdv ct) :=
  ⟨⟨_, _, _, _, _, _, _, _, _, _, rfl, l, c, .inl ⟨rfl, rfl⟩, .inr ⟨D, rfl, List.forall_mem_cons.mpr ⟨⟨_, h1, rfl⟩, List.forall_mem_cons.mpr ⟨⟨_, h2, rfl⟩, fun _ h => nomatch h⟩⟩⟩⟩, k⟩
theorem kr_of {K : PySem.W.Frag} {x qual p1 p2 : Str} {params : Arguments} {body : List Stmt} {scope : Scope} {f e1 e2 : Addr} {fd : FuncData} {ps : List Str} (F : FunD K x qual params body scope [] [(p1, .ref e1), (p2, .ref e2)] f fd)
    (h : ∀ (D : Addr) (doc pm : Value) (an : Option Addr) (cdv ct : Value) (us mv ws : List Value), us.length = 2 → mv.length = 1 → ws.length = 1 →
      KwChain D ([p2].zip mv) (bindArgs (PySem.W.fnOf x qual params body scope .none (.ref D) doc pm an cdv ct) ⟨us, [p1].zip ws⟩) (ps.zip (us ++ ws ++ mv))) :
    ∃ g, KBn K fd ps 2 [p1] g (fun vs zs => vs ++ zs ++ [V.ref e2]) := by
  obtain ⟨mv, r⟩ := F.kbinds0 2 [p1] [(p2, .ref e2)] (fun us mv ws => us ++ ws ++ mv) (by simp) (by simp) (fun a b c => (a.append c).append b) h
  exact ⟨_, r⟩
end DJ
namespace DL
open PySem PySem.Spec PyProof.Rows L2
variable [Tabs] [Me]
def sLpull : FD := fnD 5 (kSeq (kAsg (m2 gAdd (mBagIx (mVar 0) (mC (.int 4))) (mC (.int 1))) (hBag (mVar 0) (mC (.int 4))))
    (kSeq (kIf (mAndB (mB (m2 gEq (mBagIx (mVar 0) (mC (.int 2))) (mC (.int 0)))) (mB (m2 oLt (mBagIx (mVar 0) (mC (.int 1))) (mCall gLen (mCons (mBagIx (mVar 0) (mC (.int 0))) mNil))))) (kSeq (kAsg (mTup (mCons (m2 gIx (mBagIx (mVar 0) (mC (.int 0))) (mBagIx (mVar 0) (mC (.int 1)))) (mCons (m2 gAdd (mBagIx (mVar 0) (mC (.int 1))) (mC (.int 1))) mNil))) (hTup 2 (hCons (hName 3) (hCons (hBag (mVar 0) (mC (.int 1))) hNil))))
    (kSeq (kIf (mB (m2 oGe (mVar 3) (m2 gPow (mC (.int 10)) (mC (.int 18))))) (kAsg (mVar 3) (hBag (mVar 0) (mC (.int 2)))) kSkip)
    (kAsg (m2 gMod (mCall gInt1 (mCons (m2 gAdd (m2 gAdd (m2 gMul (mBagIx (mVar 0) (mC (.int 3))) (mC (.int 38377))) (m2 gMul (m2 gMod (mCall gInt1 (mCons (mVar 3) mNil)) (mC (.int 2147483489))) (mC (.int 41143)))) (mC (.int 61))) mNil)) (mC (.int 2147483549))) (hBag (mVar 0) (mC (.int 3)))))) kSkip)
    (kSeq (kIf (mB (m2 oGt (mBagIx (mVar 0) (mC (.int 2))) (mC (.int 0)))) (kSeq (kAsg (mTup (mCons (m2 gMod (mCall gInt1 (mCons (mBagIx (mVar 0) (mC (.int 2))) mNil)) (mVar 1)) (mCons (m2 gDiv (mBagIx (mVar 0) (mC (.int 2))) (mVar 1)) mNil))) (hTup 2 (hCons (hName 4) (hCons (hBag (mVar 0) (mC (.int 2))) hNil))))
    (kRet (mVar 4))) kSkip)
    (kSeq (kAsg (mBagIx (mVar 0) (mC (.int 3))) (hName 2))
    (kSeq (kAsg (m2 gMod (mCall gInt1 (mCons (m2 gAdd (m2 gAdd (m2 gAdd (m2 gPow (mVar 2) (mC (.int 3))) (m2 gMul (mVar 2) (mC (.int 37813)))) (m2 gMul (mBagIx (mVar 0) (mC (.int 4))) (mC (.int 1299689)))) (mC (.int 65437))) mNil)) (mC (.int 2147483549))) (hBag (mVar 0) (mC (.int 3))))
    (kRet (m2 gMod (mCall gInt1 (mCons (m2 gAdd (m2 gDiv (mBagIx (mVar 0) (mC (.int 3))) (mC (.int 89))) (m2 gMul (m2 gMod (mCall gInt1 (mCons (mBagIx (mVar 0) (mC (.int 3))) mNil)) (mC (.int 7919))) (mC (.int 71)))) mNil)) (mVar 1))))))))
def sLany : FD := fnD 2 (kRet (m2 gIx (mVar 1) (mApp sLpull (mCons (mVar 0) (mCons (mCall gLen (mCons (mVar 1) mNil)) mNil)))))
def sLreserved : FD := fnD 0 (kRet (mLst (mCons (mC (.str "and")) (mCons (mC (.str "found")) (mCons (mC (.str "key")) (mCons (mC (.str "next")) (mCons (mC (.str "not")) (mCons (mC (.str "or")) (mCons (mC (.str "own")) (mCons (mC (.str "set")) (mCons (mC (.str "true")) (mCons (mC (.str "where")) mNil))))))))))))
def sLnew_names : FD := fnD 9 (kSeq (kAsg (mC (.str "abcdefghijklmnopqrstuvwxyz")) (hName 2))
    (kSeq (kAsg (mM1 gJoin (mC (.str "")) (mComp [7] (wRng1 (mCons (mApp sLpull (mCons (mVar 0) (mCons (mC (.int 5)) mNil))) mNil)) (hName 7) mYes (mApp sLany (mCons (mVar 0) (mCons (mVar 2) mNil))))) (hName 3))
    (kSeq (kAsg (mTup (mCons (mApp sLpull (mCons (mVar 0) (mCons (m2 gAdd (mCall gLen (mCons (mVar 3) mNil)) (mC (.int 1))) mNil))) (mCons (mApp sLpull (mCons (mVar 0) (mCons (mC (.int 26)) mNil))) mNil))) (hTup 2 (hCons (hName 5) (hCons (hName 6) hNil))))
    (kSeq (kAsg (mComp [7] (wRng1 (mCons (mVar 1) mNil)) (hName 7) mYes (m2 gAdd (m2 gAdd (mSl (mVar 3) mNoP (mPart (mVar 5))) (m2 gIx (mVar 2) (m2 gSub0 (m2 gAdd (mVar 6) (mVar 7)) (mC (.int 26))))) (mSl (mVar 3) (mPart (mVar 5)) mNoP))) (hName 4))
    (kRet (mComp [8] (wLst (mVar 4)) (hName 8) mYes (mIf (mB (m2 gIn (mVar 8) (mApp sLreserved mNil))) (m2 gAdd (mVar 8) (mC (.str "q"))) (mVar 8))))))))
def sLnear : FD := fnD 1 (kRet (mApp sLany (mCons (mVar 0) (mCons (mLst (mCons (mC (.int 0)) (mCons (mC (.int 1)) (mCons (mC (.int 1)) (mCons (mC (.int 2)) (mCons (mC (.int 3)) (mCons (m2 gSub0 (mC (.int 0)) (mC (.int 1))) (mCons (m2 gSub0 (mC (.int 0)) (mC (.int 2))) mNil)))))))) mNil))))
def sLlikeB (R : FD) : FD := fnD 5 (kSeq (kIf (mB (mIsi (fun d => isLst d || isTup d) (mVar 1))) (kSeq (kAsg (mAndV (m2 gEq (mIsi isLst (mVar 0)) (mIsi isLst (mVar 1))) (m2 gEq (mIsi isTup (mVar 0)) (mIsi isTup (mVar 1)))) (hName 2))
    (kRet (mAndV (mVar 2) (mAndV (m2 gEq (mCall gLen (mCons (mVar 0) mNil)) (mCall gLen (mCons (mVar 1) mNil))) (mCall gAll (mCons (mComp [3, 4] (wZip (mCons (mVar 0) (mCons (mVar 1) mNil))) (hTup 2 (hCons (hName 3) (hCons (hName 4) hNil))) mYes (mApp R (mCons (mVar 3) (mCons (mVar 4) mNil)))) mNil)))))) kSkip)
    (kSeq (kIf (mOrB (mB (m2 gIsN (mVar 0) (mC .non))) (mOrB (mB (m2 gIsN (mVar 1) (mC .non))) (mB (m2 gNe (mIsi isBl (mVar 0)) (mIsi isBl (mVar 1)))))) (kRet (mAndV (m2 gIsN (mVar 0) (mC .non)) (m2 gIsN (mVar 1) (mC .non)))) kSkip)
    (kRet (mAndV (m2 gEq (mIsi isInt (mVar 0)) (mIsi isInt (mVar 1))) (mAndV (m2 gEq (mIsi isStr (mVar 0)) (mIsi isStr (mVar 1))) (m2 gEq (mVar 0) (mVar 1)))))))
def sLlike : Nat → FD
  | 0 => fun _ _ => none
  | n + 1 => sLlikeB (sLlike n)
def s_MOST_LETTERS : Dt := .int 6
def s_RESERVED : Dt := .tup [.str "and", .str "found", .str "key", .str "next", .str "not", .str "or", .str "own", .str "set", .str "true", .str "where"]
def sis_name : FD := fnD 2 (kSeq (kIf (mOrB (mNotB (mB (mIsi isStr (mVar 0)))) (mB (m2 gIn (mVar 0) (mC s_RESERVED)))) (kRet (mC (.bl false))) kSkip)
    (kRet (mAndV (mChain oLe oLe (mC (.int 1)) (mCall gLen (mCons (mVar 0) mNil)) (mC s_MOST_LETTERS)) (mCall gAll (mCons (mComp [1] (wStr (mVar 0)) (hName 1) mYes (mChain oLe oLe (mC (.str "a")) (mVar 1) (mC (.str "z")))) mNil)))))
def BagOk (bg : List Dt) : Prop := ∃ (cells : List Int) (a b s c : Int), bg = [.lst (cells.map Dt.int), .int a, .int b, .int s, .int c] ∧ 0 ≤ a ∧ a ≤ cells.length ∧ 0 ≤ b ∧ 0 ≤ s ∧ s < 2147483549
theorem bag0_ok {ns : List Int} {seed : Int} (h0 : 0 ≤ seed) (h1 : seed < 2147483549) : BagOk (bag0 ns seed) := ⟨ns, 0, 0, seed, 0, rfl, by decide, by omega, by decide, h0, h1⟩
theorem eqII {a b : Int} : gEq (.int a) (.int b) = some (.bl (a == b)) := rfl
theorem kseq {f g : DMs} {s s1 : Sta} (h : f s = some (.nx, s1)) : kSeq f g s = g s1 := by unfold kSeq; rw [h]; rfl
theorem kif_t {c : DM Bool} {f g : DMs} {s s1 : Sta} (h : c s = some (true, s1)) : kIf c f g s = f s1 := by unfold kIf; rw [h]; rfl
theorem kif_f {c : DM Bool} {f g : DMs} {s s1 : Sta} (h : c s = some (false, s1)) : kIf c f g s = g s1 := by unfold kIf; rw [h]; rfl
theorem and_f {f g : DM Bool} {s s1 : Sta} (h : f s = some (false, s1)) : mAndB f g s = some (false, s1) := by unfold mAndB; rw [h]; rfl
theorem and_t {f g : DM Bool} {s s1 : Sta} (h : f s = some (true, s1)) : mAndB f g s = g s1 := by unfold mAndB; rw [h]; rfl
theorem or_t {f g : DM Bool} {s s1 : Sta} (h : f s = some (true, s1)) : mOrB f g s = some (true, s1) := by unfold mOrB; rw [h]; rfl
theorem or_f {f g : DM Bool} {s s1 : Sta} (h : f s = some (false, s1)) : mOrB f g s = g s1 := by unfold mOrB; rw [h]; rfl
theorem m2_eq {g : Dt → Dt → Option Dt} {f1 f2 : DM Dt} {s s1 s2 : Sta} {x y d : Dt} (h1 : f1 s = some (x, s1)) (h2 : f2 s1 = some (y, s2)) (h3 : g x y = some d) : m2 g f1 f2 s = some (d, s2) := by
  unfold m2; rw [h1, Option.bind_some, h2, Option.bind_some, h3]; rfl
theorem kasg {f : DM Dt} {h : Dt → Sta → Option Sta} {s s1 s2 : Sta} {d : Dt} (h1 : f s = some (d, s1)) (h2 : h d s1 = some s2) : kAsg f h s = some (.nx, s2) := by unfold kAsg; rw [h1, Option.bind_some, h2]; rfl
theorem mcons {f : DM Dt} {g : DM (List Dt)} {s s1 s2 : Sta} {x : Dt} {xs : List Dt} (h1 : f s = some (x, s1)) (h2 : g s1 = some (xs, s2)) : mCons f g s = some (x :: xs, s2) := by unfold mCons; rw [h1, Option.bind_some, h2]; rfl
theorem mtup {f : DM (List Dt)} {s s1 : Sta} {xs : List Dt} (h : f s = some (xs, s1)) (hl : xs.length ≤ 1000 := by simp) : mTup f s = some (.tup xs, s1) := by unfold mTup; rw [h, Option.bind_some, if_pos hl]
theorem mlst {f : DM (List Dt)} {s s1 : Sta} {xs : List Dt} (h : f s = some (xs, s1)) (hl : xs.length ≤ 1000 := by simp) : mLst f s = some (.lst xs, s1) := by unfold mLst; rw [h, Option.bind_some, if_pos hl]
theorem bMulR {i j : Int} (h : -18446744073709551616 < j) (h' : j < 18446744073709551616) : gMul (.int i) (.int j) = some (.int (i * j)) := by
  unfold gMul i2
  dsimp only
  rw [if_pos]
  unfold bMul
  rw [decide_eq_true h, decide_eq_true h']
  simp
theorem gModP {i j : Int} (h : 0 < j) : gMod (.int i) (.int j) = some (.int (i % j)) := by
  unfold gMod i2
  dsimp only
  rw [if_pos]
  unfold bMod
  simp [h]
theorem gDivP {i j : Int} (h : 0 < j) (h' : j < 1073741824) : gDiv (.int i) (.int j) = some (.int (i.fdiv j)) := by
  unfold gDiv i2
  dsimp only
  rw [if_pos]
  unfold bDiv
  simp [h, h']
theorem gPowP {i : Int} (h : i.natAbs < 2 ^ 64) : gPow (.int i) (.int 3) = some (.int (i ^ 3)) := by
  unfold gPow i2
  dsimp only
  rw [if_pos]
  · rfl
  unfold bPow
  simp [h]
/-- the number of a draw, where no digits are left -/
theorem pull_tail {cells : List Int} {a b s c n : Int} {x y : Option Slo} (hs : 0 ≤ s) (hs1 : s < 2147483549) (h0 : 0 < n) : ∃ r s' sl, (kSeq (kAsg (mBagIx (mVar 0) (mC (.int 3))) (hName 2))
    (kSeq (kAsg (m2 gMod (mCall gInt1 (mCons (m2 gAdd (m2 gAdd (m2 gAdd (m2 gPow (mVar 2) (mC (.int 3))) (m2 gMul (mVar 2) (mC (.int 37813)))) (m2 gMul (mBagIx (mVar 0) (mC (.int 4))) (mC (.int 1299689)))) (mC (.int 65437))) mNil)) (mC (.int 2147483549))) (hBag (mVar 0) (mC (.int 3))))
    (kRet (m2 gMod (mCall gInt1 (mCons (m2 gAdd (m2 gDiv (mBagIx (mVar 0) (mC (.int 3))) (mC (.int 89))) (m2 gMul (m2 gMod (mCall gInt1 (mCons (mBagIx (mVar 0) (mC (.int 3))) mNil)) (mC (.int 7919))) (mC (.int 71)))) mNil)) (mVar 1)))))
     ⟨[some (.dat .bag), some (.dat (.int n)), none, x, y], [.lst (cells.map Dt.int), .int a, .int b, .int s, .int c]⟩ = some (.rt (.int r), ⟨sl, [.lst (cells.map Dt.int), .int a, .int b, .int s', .int c]⟩) ∧ 0 ≤ r ∧ r < n ∧ 0 ≤ s' ∧ s' < 2147483549 := by
  have e1 : ∀ j : Int, 0 < j → ∀ i : Int, gMod (.int i) (.int j) = some (.int (i % j)) := fun j h i => gModP h
  refine ⟨(((s ^ 3 + s * 37813 + c * 1299689 + 65437) % 2147483549).fdiv 89 + (s ^ 3 + s * 37813 + c * 1299689 + 65437) % 2147483549 % 7919 * 71) % n, (s ^ 3 + s * 37813 + c * 1299689 + 65437) % 2147483549, [some (.dat .bag), some (.dat (.int n)), some (.dat (.int s)), x, y], ?_, Int.emod_nonneg _ (by omega), Int.emod_lt_of_pos _ h0, Int.emod_nonneg _ (by decide), Int.emod_lt_of_pos _ (by decide)⟩
  rw [kseq (s1 := ⟨[some (.dat .bag), some (.dat (.int n)), some (.dat (.int s)), x, y], [.lst (cells.map Dt.int), .int a, .int b, .int s, .int c]⟩) rfl]
  rw [kseq (s1 := ⟨[some (.dat .bag), some (.dat (.int n)), some (.dat (.int s)), x, y], [.lst (cells.map Dt.int), .int a, .int b, .int ((s ^ 3 + s * 37813 + c * 1299689 + 65437) % 2147483549), .int c]⟩) ?_]
  · generalize (s ^ 3 + s * 37813 + c * 1299689 + 65437) % 2147483549 = z
    have e2 : m2 gMod (mCall gInt1 (mCons (m2 gAdd (m2 gDiv (mBagIx (mVar 0) (mC (.int 3))) (mC (.int 89))) (m2 gMul (m2 gMod (mCall gInt1 (mCons (mBagIx (mVar 0) (mC (.int 3))) mNil)) (mC (.int 7919))) (mC (.int 71)))) mNil)) (mVar 1)
      ⟨[some (.dat .bag), some (.dat (.int n)), some (.dat (.int s)), x, y], [.lst (cells.map Dt.int), .int a, .int b, .int z, .int c]⟩ = some (.int ((z.fdiv 89 + z % 7919 * 71) % n), ⟨[some (.dat .bag), some (.dat (.int n)), some (.dat (.int s)), x, y], [.lst (cells.map Dt.int), .int a, .int b, .int z, .int c]⟩) := by
      refine m2_eq (s1 := ⟨[some (.dat .bag), some (.dat (.int n)), some (.dat (.int s)), x, y], [.lst (cells.map Dt.int), .int a, .int b, .int z, .int c]⟩) (x := .int (z.fdiv 89 + z % 7919 * 71)) (y := .int n) ?_ rfl (gModP h0)
      rfl
    unfold kRet
    rw [e2]
    rfl
  · refine kasg (s1 := ⟨[some (.dat .bag), some (.dat (.int n)), some (.dat (.int s)), x, y], [.lst (cells.map Dt.int), .int a, .int b, .int s, .int c]⟩) (d := .int ((s ^ 3 + s * 37813 + c * 1299689 + 65437) % 2147483549)) ?_ rfl
    refine m2_eq (s1 := ⟨[some (.dat .bag), some (.dat (.int n)), some (.dat (.int s)), x, y], [.lst (cells.map Dt.int), .int a, .int b, .int s, .int c]⟩) (x := .int (s ^ 3 + s * 37813 + c * 1299689 + 65437)) (y := .int 2147483549) ?_ rfl rfl
    have e3 : m2 gPow (mVar 2) (mC (.int 3)) ⟨[some (.dat .bag), some (.dat (.int n)), some (.dat (.int s)), x, y], [.lst (cells.map Dt.int), .int a, .int b, .int s, .int c]⟩ = some (.int (s ^ 3), ⟨[some (.dat .bag), some (.dat (.int n)), some (.dat (.int s)), x, y], [.lst (cells.map Dt.int), .int a, .int b, .int s, .int c]⟩) := m2_eq (s1 := ⟨[some (.dat .bag), some (.dat (.int n)), some (.dat (.int s)), x, y], [.lst (cells.map Dt.int), .int a, .int b, .int s, .int c]⟩) rfl rfl (gPowP (by omega))
    have e4 : m2 gMul (mVar 2) (mC (.int 37813)) ⟨[some (.dat .bag), some (.dat (.int n)), some (.dat (.int s)), x, y], [.lst (cells.map Dt.int), .int a, .int b, .int s, .int c]⟩ = some (.int (s * 37813), ⟨[some (.dat .bag), some (.dat (.int n)), some (.dat (.int s)), x, y], [.lst (cells.map Dt.int), .int a, .int b, .int s, .int c]⟩) := m2_eq (s1 := ⟨[some (.dat .bag), some (.dat (.int n)), some (.dat (.int s)), x, y], [.lst (cells.map Dt.int), .int a, .int b, .int s, .int c]⟩) rfl rfl (bMulR (by decide) (by decide))
    have e5 : m2 gMul (mBagIx (mVar 0) (mC (.int 4))) (mC (.int 1299689)) ⟨[some (.dat .bag), some (.dat (.int n)), some (.dat (.int s)), x, y], [.lst (cells.map Dt.int), .int a, .int b, .int s, .int c]⟩ = some (.int (c * 1299689), ⟨[some (.dat .bag), some (.dat (.int n)), some (.dat (.int s)), x, y], [.lst (cells.map Dt.int), .int a, .int b, .int s, .int c]⟩) := m2_eq (s1 := ⟨[some (.dat .bag), some (.dat (.int n)), some (.dat (.int s)), x, y], [.lst (cells.map Dt.int), .int a, .int b, .int s, .int c]⟩) (x := .int c) rfl rfl (bMulR (by decide) (by decide))
    have e6 := m2_eq (g := gAdd) (m2_eq (g := gAdd) (m2_eq (g := gAdd) e3 e4 rfl) e5 rfl) (f2 := mC (.int 65437)) rfl (d := .int (s ^ 3 + s * 37813 + c * 1299689 + 65437)) rfl
    unfold mCall mCons
    rw [e6]
    rfl
def pTail : DMs := (kSeq (kAsg (mBagIx (mVar 0) (mC (.int 3))) (hName 2))
    (kSeq (kAsg (m2 gMod (mCall gInt1 (mCons (m2 gAdd (m2 gAdd (m2 gAdd (m2 gPow (mVar 2) (mC (.int 3))) (m2 gMul (mVar 2) (mC (.int 37813)))) (m2 gMul (mBagIx (mVar 0) (mC (.int 4))) (mC (.int 1299689)))) (mC (.int 65437))) mNil)) (mC (.int 2147483549))) (hBag (mVar 0) (mC (.int 3))))
    (kRet (m2 gMod (mCall gInt1 (mCons (m2 gAdd (m2 gDiv (mBagIx (mVar 0) (mC (.int 3))) (mC (.int 89))) (m2 gMul (m2 gMod (mCall gInt1 (mCons (mBagIx (mVar 0) (mC (.int 3))) mNil)) (mC (.int 7919))) (mC (.int 71)))) mNil)) (mVar 1)))))
def pIf3 : DMs := (kIf (mB (m2 oGt (mBagIx (mVar 0) (mC (.int 2))) (mC (.int 0)))) (kSeq (kAsg (mTup (mCons (m2 gMod (mCall gInt1 (mCons (mBagIx (mVar 0) (mC (.int 2))) mNil)) (mVar 1)) (mCons (m2 gDiv (mBagIx (mVar 0) (mC (.int 2))) (mVar 1)) mNil))) (hTup 2 (hCons (hName 4) (hCons (hBag (mVar 0) (mC (.int 2))) hNil))))
    (kRet (mVar 4))) kSkip)
def pThen3 : DMs := (kSeq (kAsg (mTup (mCons (m2 gMod (mCall gInt1 (mCons (mBagIx (mVar 0) (mC (.int 2))) mNil)) (mVar 1)) (mCons (m2 gDiv (mBagIx (mVar 0) (mC (.int 2))) (mVar 1)) mNil))) (hTup 2 (hCons (hName 4) (hCons (hBag (mVar 0) (mC (.int 2))) hNil))))
    (kRet (mVar 4)))
def pC3 : DM Bool := (mB (m2 oGt (mBagIx (mVar 0) (mC (.int 2))) (mC (.int 0))))
def pIf2 : DMs := (kIf (mAndB (mB (m2 gEq (mBagIx (mVar 0) (mC (.int 2))) (mC (.int 0)))) (mB (m2 oLt (mBagIx (mVar 0) (mC (.int 1))) (mCall gLen (mCons (mBagIx (mVar 0) (mC (.int 0))) mNil))))) (kSeq (kAsg (mTup (mCons (m2 gIx (mBagIx (mVar 0) (mC (.int 0))) (mBagIx (mVar 0) (mC (.int 1)))) (mCons (m2 gAdd (mBagIx (mVar 0) (mC (.int 1))) (mC (.int 1))) mNil))) (hTup 2 (hCons (hName 3) (hCons (hBag (mVar 0) (mC (.int 1))) hNil))))
    (kSeq (kIf (mB (m2 oGe (mVar 3) (m2 gPow (mC (.int 10)) (mC (.int 18))))) (kAsg (mVar 3) (hBag (mVar 0) (mC (.int 2)))) kSkip)
    (kAsg (m2 gMod (mCall gInt1 (mCons (m2 gAdd (m2 gAdd (m2 gMul (mBagIx (mVar 0) (mC (.int 3))) (mC (.int 38377))) (m2 gMul (m2 gMod (mCall gInt1 (mCons (mVar 3) mNil)) (mC (.int 2147483489))) (mC (.int 41143)))) (mC (.int 61))) mNil)) (mC (.int 2147483549))) (hBag (mVar 0) (mC (.int 3)))))) kSkip)
def pThen2 : DMs := (kSeq (kAsg (mTup (mCons (m2 gIx (mBagIx (mVar 0) (mC (.int 0))) (mBagIx (mVar 0) (mC (.int 1)))) (mCons (m2 gAdd (mBagIx (mVar 0) (mC (.int 1))) (mC (.int 1))) mNil))) (hTup 2 (hCons (hName 3) (hCons (hBag (mVar 0) (mC (.int 1))) hNil))))
    (kSeq (kIf (mB (m2 oGe (mVar 3) (m2 gPow (mC (.int 10)) (mC (.int 18))))) (kAsg (mVar 3) (hBag (mVar 0) (mC (.int 2)))) kSkip)
    (kAsg (m2 gMod (mCall gInt1 (mCons (m2 gAdd (m2 gAdd (m2 gMul (mBagIx (mVar 0) (mC (.int 3))) (mC (.int 38377))) (m2 gMul (m2 gMod (mCall gInt1 (mCons (mVar 3) mNil)) (mC (.int 2147483489))) (mC (.int 41143)))) (mC (.int 61))) mNil)) (mC (.int 2147483549))) (hBag (mVar 0) (mC (.int 3))))))
def pC2a : DM Bool := (mB (m2 gEq (mBagIx (mVar 0) (mC (.int 2))) (mC (.int 0))))
def pC2b : DM Bool := (mB (m2 oLt (mBagIx (mVar 0) (mC (.int 1))) (mCall gLen (mCons (mBagIx (mVar 0) (mC (.int 0))) mNil))))
def pS1 : DMs := (kAsg (m2 gAdd (mBagIx (mVar 0) (mC (.int 4))) (mC (.int 1))) (hBag (mVar 0) (mC (.int 4))))
theorem pull_eq : sLpull = fnD 5 (kSeq pS1 (kSeq pIf2 (kSeq pIf3 pTail))) := rfl
abbrev pSt (n : Int) (x y : Option Slo) (cells : List Int) (a b s c : Int) : Sta := ⟨[some (.dat .bag), some (.dat (.int n)), none, x, y], [.lst (cells.map Dt.int), .int a, .int b, .int s, .int c]⟩
theorem pull_rest {cells : List Int} {a b s c n : Int} {x : Option Slo} (ha : 0 ≤ a) (hal : a ≤ cells.length) (hb : 0 ≤ b) (hs : 0 ≤ s) (hs1 : s < 2147483549) (h0 : 0 < n) (h1 : n < 1073741824) :
    ∃ r st, kSeq pIf3 pTail (pSt n x none cells a b s c) = some (.rt (.int r), st) ∧ 0 ≤ r ∧ r < n ∧ BagOk st.bag := by
  by_cases h : 0 < b
  · have e1 : pC3 (pSt n x none cells a b s c) = some (true, pSt n x none cells a b s c) := by
      show some (decide (0 < b), pSt n x none cells a b s c) = _
      rw [decide_eq_true h]
    have e2 : pThen3 (pSt n x none cells a b s c) = some (.rt (.int (b % n)), pSt n x (some (.dat (.int (b % n)))) cells a (b.fdiv n) s c) := by
      unfold pThen3
      refine (kseq (s1 := pSt n x (some (.dat (.int (b % n)))) cells a (b.fdiv n) s c) ?_).trans rfl
      refine kasg (s1 := pSt n x none cells a b s c) (d := .tup [.int (b % n), .int (b.fdiv n)]) ?_ rfl
      have e3 := gModP (i := b) h0
      have e4 := gDivP (i := b) h0 h1
      have e5 : m2 gMod (mCall gInt1 (mCons (mBagIx (mVar 0) (mC (.int 2))) mNil)) (mVar 1) (pSt n x none cells a b s c) = some (.int (b % n), pSt n x none cells a b s c) := m2_eq (s1 := pSt n x none cells a b s c) (x := .int b) (y := .int n) rfl rfl e3
      have e6 : m2 gDiv (mBagIx (mVar 0) (mC (.int 2))) (mVar 1) (pSt n x none cells a b s c) = some (.int (b.fdiv n), pSt n x none cells a b s c) := m2_eq (s1 := pSt n x none cells a b s c) (x := .int b) (y := .int n) rfl rfl e4
      exact mtup (mcons e5 (mcons e6 rfl)) (by simp)
    refine ⟨b % n, pSt n x (some (.dat (.int (b % n)))) cells a (b.fdiv n) s c, ?_, Int.emod_nonneg _ (by omega), Int.emod_lt_of_pos _ h0, ?_⟩
    · show kSeq (kIf pC3 pThen3 kSkip) pTail _ = _
      unfold kSeq
      rw [kif_t e1, e2]
      rfl
    · exact ⟨cells, a, b.fdiv n, s, c, rfl, ha, hal, Int.fdiv_nonneg hb (by omega), hs, hs1⟩
  · have e1 : pC3 (pSt n x none cells a b s c) = some (false, pSt n x none cells a b s c) := by
      show some (decide (0 < b), pSt n x none cells a b s c) = _
      rw [decide_eq_false h]
    obtain ⟨r, s', sl, e2, r0, r1, t0, t1⟩ := pull_tail (cells := cells) (a := a) (b := b) (c := c) (x := x) (y := none) hs hs1 h0
    refine ⟨r, ⟨sl, [.lst (cells.map Dt.int), .int a, .int b, .int s', .int c]⟩, ?_, r0, r1, ?_⟩
    · show kSeq (kIf pC3 pThen3 kSkip) pTail _ = _
      rw [kseq (f := kIf pC3 pThen3 kSkip) (s1 := pSt n x none cells a b s c) (by rw [kif_f e1]; rfl)]
      exact e2
    · exact ⟨cells, a, b, s', c, rfl, ha, hal, hb, t0, t1⟩
theorem ati_nat {l : List Dt} {a : Int} (h0 : 0 ≤ a) (h1 : a < l.length) : atI l a = l[a.toNat]? := by
  unfold atI ixN
  rw [if_pos h0, if_pos h1]
  rfl
theorem pull_ok {bg : List Dt} (h : BagOk bg) {n : Int} (h0 : 0 < n) (h1 : n < 1073741824) : ∃ r bg', sLpull [.bag, .int n] bg = some (.int r, bg') ∧ 0 ≤ r ∧ r < n ∧ BagOk bg' := by
  obtain ⟨cells, a, b, s, c, rfl, ha, hal, hb, hs, hs1⟩ := h
  have key : ∃ x a' b' s', pIf2 (pSt n none none cells a b s (c + 1)) = some (.nx, pSt n x none cells a' b' s' (c + 1)) ∧ 0 ≤ a' ∧ a' ≤ cells.length ∧ 0 ≤ b' ∧ 0 ≤ s' ∧ s' < 2147483549 := by
    have c1 : pC2a (pSt n none none cells a b s (c + 1)) = some (b == 0, pSt n none none cells a b s (c + 1)) := rfl
    have c2 : pC2b (pSt n none none cells a b s (c + 1)) = some (decide (a < (cells.map Dt.int).length), pSt n none none cells a b s (c + 1)) := rfl
    by_cases hz : b = 0
    · subst hz
      have c1' : pC2a (pSt n none none cells a 0 s (c + 1)) = some (true, pSt n none none cells a 0 s (c + 1)) := rfl
      by_cases hl : a < cells.length
      · have c3 : mAndB pC2a pC2b (pSt n none none cells a 0 s (c + 1)) = some (true, pSt n none none cells a 0 s (c + 1)) := by
          rw [and_t c1', c2, decide_eq_true (by simpa using hl)]
        have hj : a.toNat < cells.length := by omega
        have e4 : gIx (.lst (cells.map Dt.int)) (.int a) = some (.int cells[a.toNat]) := by
          show atI (cells.map Dt.int) a = _
          rw [ati_nat ha (by simpa using hl)]
          simp [hj]
        generalize cells[a.toNat] = z at e4
        have e5 : (kAsg (mTup (mCons (m2 gIx (mBagIx (mVar 0) (mC (.int 0))) (mBagIx (mVar 0) (mC (.int 1)))) (mCons (m2 gAdd (mBagIx (mVar 0) (mC (.int 1))) (mC (.int 1))) mNil))) (hTup 2 (hCons (hName 3) (hCons (hBag (mVar 0) (mC (.int 1))) hNil)))) (pSt n none none cells a 0 s (c + 1)) = some (.nx, pSt n (some (.dat (.int z))) none cells (a + 1) 0 s (c + 1)) := by
          refine kasg (s1 := pSt n none none cells a 0 s (c + 1)) (d := .tup [.int z, .int (a + 1)]) ?_ rfl
          exact mtup (mcons (m2_eq (s1 := pSt n none none cells a 0 s (c + 1)) (s2 := pSt n none none cells a 0 s (c + 1)) (x := .lst (cells.map Dt.int)) (y := .int a) rfl rfl e4) rfl) (by simp)
        have key2 : ∃ b', (kIf (mB (m2 oGe (mVar 3) (m2 gPow (mC (.int 10)) (mC (.int 18))))) (kAsg (mVar 3) (hBag (mVar 0) (mC (.int 2)))) kSkip) (pSt n (some (.dat (.int z))) none cells (a + 1) 0 s (c + 1)) = some (.nx, pSt n (some (.dat (.int z))) none cells (a + 1) b' s (c + 1)) ∧ 0 ≤ b' := by
          by_cases hg : (1000000000000000000 : Int) ≤ z
          · refine ⟨z, ?_, by omega⟩
            rw [kif_t (s1 := pSt n (some (.dat (.int z))) none cells (a + 1) 0 s (c + 1))]
            · rfl
            · show some (decide ((1000000000000000000 : Int) ≤ z), _) = _
              rw [decide_eq_true hg]
          · refine ⟨0, ?_, by omega⟩
            rw [kif_f (s1 := pSt n (some (.dat (.int z))) none cells (a + 1) 0 s (c + 1))]
            · rfl
            · show some (decide ((1000000000000000000 : Int) ≤ z), _) = _
              rw [decide_eq_false hg]
        obtain ⟨b', e6, hb'⟩ := key2
        refine ⟨some (.dat (.int z)), a + 1, b', (s * 38377 + z % 2147483489 * 41143 + 61) % 2147483549, ?_, by omega, by omega, hb', Int.emod_nonneg _ (by decide), Int.emod_lt_of_pos _ (by decide)⟩
        show kIf (mAndB pC2a pC2b) pThen2 kSkip _ = _
        rw [kif_t c3]
        show kSeq _ (kSeq _ _) _ = _
        rw [kseq e5, kseq e6]
        rfl
      · refine ⟨none, a, 0, s, ?_, ha, hal, by decide, hs, hs1⟩
        have c3 : mAndB pC2a pC2b (pSt n none none cells a 0 s (c + 1)) = some (false, pSt n none none cells a 0 s (c + 1)) := by
          rw [and_t c1', c2, decide_eq_false (by simpa using hl)]
        show kIf (mAndB pC2a pC2b) pThen2 kSkip _ = _
        rw [kif_f c3]
        rfl
    · refine ⟨none, a, b, s, ?_, ha, hal, hb, hs, hs1⟩
      show kIf (mAndB pC2a pC2b) pThen2 kSkip _ = _
      rw [kif_f (and_f (by rw [c1, beq_eq_false_iff_ne.mpr hz]))]
      rfl
  obtain ⟨x, a', b', s', e1, k1, k2, k3, k4, k5⟩ := key
  obtain ⟨r, st, e2, r0, r1, hB⟩ := pull_rest (x := x) (c := c + 1) k1 k2 k3 k4 k5 h0 h1
  refine ⟨r, st.bag, ?_, r0, r1, hB⟩
  rw [pull_eq]
  have e0 : pS1 (pSt n none none cells a b s c) = some (.nx, pSt n none none cells a b s (c + 1)) := rfl
  show (kSeq pS1 (kSeq pIf2 (kSeq pIf3 pTail)) (pSt n none none cells a b s c)).bind _ = _
  rw [kseq e0, kseq e1, e2]
  rfl
theorem mapp {F : FD} {f : DM (List Dt)} {s s1 : Sta} {ds : List Dt} {d : Dt} {bg : List Dt} (h : f s = some (ds, s1)) (hF : F ds s1.bag = some (d, bg)) : mApp F f s = some (d, { s1 with bag := bg }) := by unfold mApp; rw [h, Option.bind_some, hF]; rfl
theorem kret {f : DM Dt} {s s1 : Sta} {d : Dt} (h : f s = some (d, s1)) : kRet f s = some (.rt d, s1) := by unfold kRet; rw [h]; rfl
theorem fnd {n : Nat} {f : DMs} {ds bg : List Dt} {d : Dt} {s1 : Sta} (h : f ⟨ds.map (fun d => some (.dat d)) ++ List.replicate (n - ds.length) none, bg⟩ = some (.rt d, s1)) : fnD n f ds bg = some (d, s1.bag) := by unfold fnD; rw [h]; rfl
theorem any_ok {bg : List Dt} (h : BagOk bg) {rows : List Dt} (h0 : 0 < rows.length) (h1 : rows.length < 1000000) : ∃ d bg', sLany [.bag, .lst rows] bg = some (d, bg') ∧ d ∈ rows ∧ BagOk bg' := by
  obtain ⟨r, bg', e, r0, r1, hb⟩ := pull_ok h (n := (rows.length : Nat)) (by omega) (by omega)
  have hj : r.toNat < rows.length := by omega
  refine ⟨rows[r.toNat], bg', ?_, List.getElem_mem hj, hb⟩
  refine fnd (s1 := ⟨[some (.dat .bag), some (.dat (.lst rows))], bg'⟩) (kret ?_)
  refine m2_eq (s1 := ⟨[some (.dat .bag), some (.dat (.lst rows))], bg⟩) (x := .lst rows) (y := .int r) rfl ?_ ?_
  · exact mapp (s1 := ⟨[some (.dat .bag), some (.dat (.lst rows))], bg⟩) (ds := [.bag, .int (rows.length : Nat)]) rfl e
  · show atI rows r = _
    rw [ati_nat r0 (by omega)]
    simp [hj]
theorem glen_str {z : Str} (h : z.length ≤ sizeLine) : gLen [.str z] = some (.int (z.length : Nat)) := by
  show (if z.length ≤ sizeLine then some (Dt.int (z.length : Nat)) else none) = _
  rw [if_pos h]
theorem gix_str {z : Str} {i : Int} {c : Nat} (h : z.length ≤ sizeLine) (e : atI z.cps.toList i = some c) : gIx (.str z) (.int i) = some (.str ⟨#[c]⟩) := by
  show (if z.length ≤ sizeLine then (atI z.cps.toList i).bind fun c => some (Dt.str ⟨#[c]⟩) else none) = _
  rw [if_pos h, e]
  rfl
theorem any_str {bg : List Dt} (h : BagOk bg) {z : Str} (h0 : 0 < z.length) (h1 : z.length < 1000000) : ∃ c bg', sLany [.bag, .str z] bg = some (.str ⟨#[c]⟩, bg') ∧ c ∈ z.cps.toList ∧ BagOk bg' := by
  obtain ⟨r, bg', e, r0, r1, hb⟩ := pull_ok h (n := (z.length : Nat)) (by omega) (by omega)
  have hl : z.cps.toList.length = z.length := by simp [Str.length]
  have hj : r.toNat < z.cps.toList.length := by omega
  refine ⟨z.cps.toList[r.toNat], bg', ?_, List.getElem_mem hj, hb⟩
  have hz : z.length ≤ sizeLine := Nat.le_trans (Nat.le_of_lt h1) (by decide)
  refine fnd (s1 := ⟨[some (.dat .bag), some (.dat (.str z))], bg'⟩) (kret ?_)
  refine m2_eq (s1 := ⟨[some (.dat .bag), some (.dat (.str z))], bg⟩) (x := .str z) (y := .int r) rfl ?_ ?_
  · refine mapp (s1 := ⟨[some (.dat .bag), some (.dat (.str z))], bg⟩) (ds := [.bag, .int (z.length : Nat)]) ?_ e
    refine mcons (s1 := ⟨[some (.dat .bag), some (.dat (.str z))], bg⟩) rfl (mcons (s1 := ⟨[some (.dat .bag), some (.dat (.str z))], bg⟩) ?_ rfl)
    unfold mCall
    show (gLen [.str z]).bind _ = _
    rw [glen_str hz]
    rfl
  · have : atI z.cps.toList r = some z.cps.toList[r.toNat] := by
      unfold atI ixN
      rw [if_pos r0, if_pos (by omega)]
      show z.cps.toList[r.toNat]? = _
      simp [hj]
    exact gix_str hz this
theorem near_ok {bg : List Dt} (h : BagOk bg) : ∃ i bg', sLnear [.bag] bg = some (.int i, bg') ∧ -2 ≤ i ∧ i ≤ 3 ∧ BagOk bg' := by
  obtain ⟨d, bg', e, hd, hb⟩ := any_ok h (rows := [.int 0, .int 1, .int 1, .int 2, .int 3, .int (0 - 1), .int (0 - 2)]) (by simp) (by simp)
  have hi : ∃ i, d = .int i ∧ -2 ≤ i ∧ i ≤ 3 := by
    simp only [List.mem_cons, List.not_mem_nil, or_false] at hd
    rcases hd with rfl | rfl | rfl | rfl | rfl | rfl | rfl <;> exact ⟨_, rfl, by decide, by decide⟩
  obtain ⟨i, rfl, i0, i1⟩ := hi
  refine ⟨i, bg', ?_, i0, i1, hb⟩
  refine fnd (s1 := ⟨[some (.dat .bag)], bg'⟩) (kret ?_)
  exact mapp (s1 := ⟨[some (.dat .bag)], bg⟩) (ds := [.bag, .lst [.int 0, .int 1, .int 1, .int 2, .int 3, .int (0 - 1), .int (0 - 2)]]) rfl e
theorem comp_all {sl0 : List (Option Slo)} {h : Dt → Sta → Option Sta} {t : DM Bool} {e : DM Dt} (Pd Pr : Dt → Prop)
    (hstep : ∀ d bg, Pd d → BagOk bg → ∃ s1 s2 r s3, h d ⟨sl0, bg⟩ = some s1 ∧ t s1 = some (true, s2) ∧ e s2 = some (r, s3) ∧ Pr r ∧ BagOk s3.bag) :
    ∀ (l : List Dt) (bg : List Dt), (∀ d ∈ l, Pd d) → BagOk bg → ∃ rs bg', compD sl0 h t e l bg = some (rs, bg') ∧ rs.length = l.length ∧ (∀ r ∈ rs, Pr r) ∧ BagOk bg'
  | [], bg, _, hb => ⟨[], bg, rfl, rfl, by simp, hb⟩
  | d :: l, bg, hp, hb => by
    obtain ⟨s1, s2, r, s3, e1, e2, e3, hr, hb3⟩ := hstep d bg (hp d (List.mem_cons_self ..)) hb
    obtain ⟨rs, bg', e4, hl, hrs, hb'⟩ := comp_all Pd Pr hstep l s3.bag (fun z hz => hp z (List.mem_cons_of_mem _ hz)) hb3
    refine ⟨r :: rs, bg', ?_, by simp [hl], ?_, hb'⟩
    · unfold compD
      rw [e1, Option.bind_some, e2, Option.bind_some]
      dsimp only
      rw [if_pos rfl, e3, Option.bind_some, e4]
      rfl
    · intro z hz
      rcases List.mem_cons.mp hz with rfl | hz
      · exact hr
      · exact hrs z hz
theorem comp_map {sl0 : List (Option Slo)} {h : Dt → Sta → Option Sta} {t : DM Bool} {e : DM Dt} (g : Dt → Dt) {bg : List Dt} :
    ∀ (l : List Dt), (∀ d ∈ l, ∃ s1 s2 s3, h d ⟨sl0, bg⟩ = some s1 ∧ t s1 = some (true, s2) ∧ e s2 = some (g d, s3) ∧ s3.bag = bg) → compD sl0 h t e l bg = some (l.map g, bg)
  | [], _ => rfl
  | d :: l, hs => by
    obtain ⟨s1, s2, s3, e1, e2, e3, e4⟩ := hs d (List.mem_cons_self ..)
    unfold compD
    rw [e1, Option.bind_some, e2, Option.bind_some]
    dsimp only
    rw [if_pos rfl, e3, Option.bind_some]
    dsimp only
    rw [e4, comp_map g l fun z hz => hs z (List.mem_cons_of_mem _ hz)]
    rfl
theorem mcomp {is : List Nat} {f : DM (List Dt)} {h : Dt → Sta → Option Sta} {t : DM Bool} {e : DM Dt} {s s1 : Sta} {l rs bg' : List Dt} (h1 : f s = some (l, s1)) (hl : l.length ≤ 100000) (h2 : compD (wipeS (s1.sl.map datOnly) is) h t e l s1.bag = some (rs, bg')) :
    mComp is f h t e s = some (.lst rs, { s1 with bag := bg' }) := by
  unfold mComp
  rw [h1, Option.bind_some]
  dsimp only
  rw [if_pos hl, h2]
  rfl
def letter (c : Nat) : Prop := 97 ≤ c ∧ c ≤ 122
def resv : List Str := ["and", "found", "key", "next", "not", "or", "own", "set", "true", "where"]
def Low (z : Str) : Prop := ∀ c ∈ z.cps.toList, letter c
structure NameOk (z : Str) : Prop where
  low : Low z
  pos : 1 ≤ z.length
  few : z.length ≤ 6
  free : z ∉ resv
theorem low_app {a b : Str} (ha : Low a) (hb : Low b) : Low (a ++ b) := by
  intro c hc
  have : (a ++ b).cps.toList = a.cps.toList ++ b.cps.toList := by show (a.cps ++ b.cps).toList = _; simp
  rw [this, List.mem_append] at hc
  exact hc.elim (ha c) (hb c)
theorem len_app {a b : Str} : (a ++ b).length = a.length + b.length := by show (a.cps ++ b.cps).size = _; simp [Str.length]
theorem low_nil : Low "" := fun c hc => by
  have e : ("" : Str).cps.toList = [] := rfl
  rw [e] at hc
  cases hc
theorem low_join {l : List Str} (h : ∀ z ∈ l, Low z) : Low (Str.join "" l) ∧ (Str.join "" l).length = (l.map (·.length)).sum := by
  induction l with
  | nil => exact ⟨low_nil, rfl⟩
  | cons a l ih =>
    obtain ⟨h1, h2⟩ := ih fun z hz => h z (List.mem_cons_of_mem _ hz)
    cases l with
    | nil =>
      exact ⟨h a (List.mem_cons_self ..), by show a.length = _; simp⟩
    | cons b l =>
      have e : Str.join "" (a :: b :: l) = a ++ "" ++ Str.join "" (b :: l) := rfl
      rw [e]
      refine ⟨low_app (low_app (h a (List.mem_cons_self ..)) low_nil) h1, ?_⟩
      have e2 : ((a :: b :: l).map (·.length)).sum = a.length + ((b :: l).map (·.length)).sum := by simp
      rw [len_app, len_app, h2, e2]
      show a.length + 0 + _ = _
      omega
theorem low_cut {z : Str} (h : Low z) (lo hi : Option Int) : Low (cutS z lo hi) := by
  intro c hc
  apply h c
  have hc' : c ∈ ((z.cps.toList.drop (HT.sIx z.length 0 lo)).take (HT.sIx z.length z.length hi - HT.sIx z.length 0 lo)) := by
    unfold cutS at hc; simpa using hc
  exact List.mem_of_mem_drop (List.mem_of_mem_take hc')
theorem len_cut {z : Str} {i : Nat} (h : i ≤ z.length) : (cutS z none (some (i : Nat))).length + (cutS z (some (i : Nat)) none).length = z.length := by
  have hz : z.cps.toList.length = z.length := by simp [Str.length]
  unfold cutS Str.length at *
  rw [HT.sIx_nat, HT.sIx_nat, HT.sIx_none, HT.sIx_none]
  simp
  omega
def lowB (z : Str) : Bool := z.cps.toList.all fun c => decide (97 ≤ c) && decide (c ≤ 122)
def nameB (z : Str) : Bool := lowB z && decide (1 ≤ z.length) && decide (z.length ≤ 6) && !resv.contains z
theorem lowB_iff {z : Str} : lowB z = true ↔ Low z := by
  unfold lowB Low letter
  rw [List.all_eq_true]
  constructor
  · intro h c hc
    have := h c hc
    rw [Bool.and_eq_true] at this
    exact ⟨of_decide_eq_true this.1, of_decide_eq_true this.2⟩
  · intro h c hc
    rw [Bool.and_eq_true]
    exact ⟨decide_eq_true (h c hc).1, decide_eq_true (h c hc).2⟩
theorem nameB_iff {z : Str} : nameB z = true ↔ NameOk z := by
  unfold nameB
  simp only [Bool.and_eq_true, lowB_iff, decide_eq_true_eq, Bool.not_eq_true', List.contains_eq_mem, decide_eq_false_iff_not]
  exact ⟨fun h => ⟨h.1.1.1, h.1.1.2, h.1.2, h.2⟩, fun h => ⟨⟨⟨h.low, h.pos⟩, h.few⟩, h.free⟩⟩
theorem resv_q : ∀ r ∈ resv, nameB (r ++ "q") = true := by decide +kernel
def abc : Str := "abcdefghijklmnopqrstuvwxyz"
theorem low_abc : Low abc := lowB_iff.mp (by decide +kernel)
theorem len_abc : abc.length = 26 := by decide +kernel
theorem txts_map : ∀ (ss : List Str), gJoin.txts (ss.map Dt.str) = some ss
  | [] => rfl
  | s :: r => by
    show (gJoin.txts (r.map Dt.str)).bind _ = _
    rw [txts_map r]
    rfl
theorem strs_of {Pz : Str → Prop} : ∀ {rs : List Dt}, (∀ r ∈ rs, ∃ z, r = .str z ∧ Pz z) → ∃ ss : List Str, rs = ss.map Dt.str ∧ ∀ z ∈ ss, Pz z
  | [], _ => ⟨[], rfl, by simp⟩
  | r :: rs, h => by
    obtain ⟨z, rfl, hz⟩ := h r (List.mem_cons_self ..)
    obtain ⟨ss, rfl, hs⟩ := strs_of (rs := rs) fun x hx => h x (List.mem_cons_of_mem _ hx)
    exact ⟨z :: ss, rfl, fun y hy => by rcases List.mem_cons.mp hy with rfl | hy; exact hz; exact hs y hy⟩
theorem in_resv (z : Str) : gIn (.str z) (.lst (resv.map Dt.str)) = some (.bl (resv.any fun r => r == z)) := by
  show (if (flatD (.str z) && (resv.map Dt.str).all flatD) = true then some (Dt.bl ((resv.map Dt.str).any fun d => sameD d (.str z))) else none) = _
  rw [if_pos (show (flatD (.str z) && (resv.map Dt.str).all flatD) = true from rfl), List.any_map]
  rfl
theorem rng_mem {lo : Int} {n : Nat} {d : Dt} (h : d ∈ rngD lo n) : ∃ i : Nat, i < n ∧ d = .int (lo + (i : Nat)) := by
  unfold rngD at h
  obtain ⟨i, hi, rfl⟩ := List.mem_map.mp h
  exact ⟨i, List.mem_range.mp hi, rfl⟩
theorem gadd_str {a b : Str} (h : a.length + b.length ≤ 1000) : gAdd (.str a) (.str b) = some (.str (a ++ b)) := by
  show (if a.length + b.length ≤ sizeLine then some (Dt.str (a ++ b)) else none) = _
  rw [if_pos (Nat.le_trans h (by decide))]
theorem gsl_str {z : Str} {lo hi : Option Int} (h : z.length ≤ 1000) : gSl (.str z) lo hi = some (.str (cutS z lo hi)) := by
  show (if z.length ≤ sizeLine then some (Dt.str (cutS z lo hi)) else none) = _
  rw [if_pos (Nat.le_trans h (by decide))]
theorem msl {f : DM Dt} {g h : DM (Option Int)} {s s1 s2 s3 : Sta} {x d : Dt} {lo hi : Option Int} (h1 : f s = some (x, s1)) (h2 : g s1 = some (lo, s2)) (h3 : h s2 = some (hi, s3)) (h4 : gSl x lo hi = some d) : mSl f g h s = some (d, s3) := by
  unfold mSl
  rw [h1, Option.bind_some, h2, Option.bind_some, h3, Option.bind_some]
  dsimp only
  rw [h4]
  rfl
theorem mrng1 {f : DM (List Dt)} {s s1 : Sta} {j : Int} (h : f s = some ([.int j], s1)) (h0 : 0 ≤ j) (h1 : j < 1000000) : wRng1 f s = some (rngD 0 j.toNat, s1) := by
  unfold wRng1
  rw [h, Option.bind_some]
  dsimp only
  rw [if_pos]
  unfold bRng
  rw [decide_eq_true (by omega), decide_eq_true (by omega)]
  rfl
theorem rng_len {lo : Int} {n : Nat} : (rngD lo n).length = n := by simp [rngD]
theorem mm1 {g : Str → Dt → Option Dt} {f1 f2 : DM Dt} {s s1 s2 : Sta} {a : Str} {y d : Dt} (h1 : f1 s = some (.str a, s1)) (h2 : f2 s1 = some (y, s2)) (h3 : g a y = some d) : mM1 g f1 f2 s = some (d, s2) := by
  unfold mM1
  rw [h1, Option.bind_some]
  dsimp only
  rw [h2, Option.bind_some, h3]
  rfl
theorem gjoin_ok {ss : List Str} (h : (ss.map (·.length)).sum ≤ 1000) : gJoin "" (.lst (ss.map Dt.str)) = some (.str (Str.join "" ss)) := by
  show (gJoin.txts (ss.map Dt.str)).bind _ = _
  rw [txts_map, Option.bind_some, if_pos]
  · rw [TL.join_eq]
  · have e : ("" : Str).length = 0 := rfl
    rw [e]
    omega
theorem sum_ones : ∀ {ss : List Str}, (∀ z ∈ ss, z.length = 1) → (ss.map (·.length)).sum = ss.length
  | [], _ => rfl
  | s :: r, h => by
    rw [List.map_cons, List.sum_cons, h s (List.mem_cons_self ..), sum_ones fun z hz => h z (List.mem_cons_of_mem _ hz), List.length_cons]
    omega
def okD : Nat → Dt → Bool
  | 0, _ => false
  | _, .bag => false
  | _, .dic _ _ => false
  | _, .ins _ _ _ => false
  | _, .err _ _ _ => false
  | _, .old _ => false
  | n + 1, .tup l => decide (l.length ≤ 1000) && l.all (okD n)
  | n + 1, .lst l => decide (l.length ≤ 1000) && l.all (okD n)
  | _ + 1, .str z => z.cps.all (· < 0x110000)
  | _ + 1, _ => true
theorem zip_self {l : List Dt} {d : Dt} (h : d ∈ zipD l l) : ∃ x, x ∈ l ∧ d = .tup [x, x] := by
  obtain ⟨i, hi, e⟩ := List.getElem_of_mem h
  have e' : (zipD l l)[i]? = some d := by rw [← e]; exact List.getElem?_eq_getElem hi
  obtain ⟨x, y, h1, h2, rfl⟩ := zip_get l l i d e'
  rw [h1] at h2
  cases h2
  exact ⟨x, List.mem_of_getElem? h1, rfl⟩
theorem bools_true : ∀ (l : List Dt), bools (l.map fun _ => .bl true) = some (l.map fun _ => true)
  | [] => rfl
  | d :: l => by
    show (bools (l.map fun _ => .bl true)).bind _ = _
    rw [bools_true l]
    rfl
theorem all_true : ∀ (l : List Dt), ((l.map fun _ => true).all id) = true
  | [] => rfl
  | d :: l => by
    show (id true && (l.map fun _ => true).all id) = true
    rw [all_true l]
    rfl
theorem gall_true (l : List Dt) : gAll [.lst (l.map fun _ => .bl true)] = some (.bl true) := by
  show (bools (l.map fun _ => .bl true)).bind _ = _
  rw [bools_true, Option.bind_some, all_true]
theorem like_seq {R : FD} {l : List Dt} {d : Dt} {bg : List Dt} (hd : d = .lst l ∨ d = .tup l) (hl : l.length ≤ 1000) (hR : ∀ x ∈ l, R [x, x] bg = some (.bl true, bg)) : sLlikeB R [d, d] bg = some (.bl true, bg) := by
  let s2 : Sta := ⟨[some (.dat d), some (.dat d), some (.dat (.bl true)), none, none], bg⟩
  have hlen : gLen [d] = some (.int (l.length : Nat)) := by rcases hd with rfl | rfl <;> rfl
  have e1 : m2 gEq (mCall gLen (mCons (mVar 0) mNil)) (mCall gLen (mCons (mVar 1) mNil)) s2 = some (.bl true, s2) := by
    refine m2_eq (s1 := s2) (x := .int (l.length : Nat)) (y := .int (l.length : Nat)) ?_ ?_ ?_
    · unfold mCall; show (gLen [d]).bind _ = _; rw [hlen]; rfl
    · unfold mCall; show (gLen [d]).bind _ = _; rw [hlen]; rfl
    · rw [eqII, beq_self_eq_true]
  have e2 : mComp [3, 4] (wZip (mCons (mVar 0) (mCons (mVar 1) mNil))) (hTup 2 (hCons (hName 3) (hCons (hName 4) hNil))) mYes (mApp R (mCons (mVar 3) (mCons (mVar 4) mNil))) s2 = some (.lst ((zipD l l).map fun _ => .bl true), s2) := by
    refine mcomp (s1 := s2) (l := zipD l l) ?_ (by rw [zip_len]; omega) (comp_map (fun _ => .bl true) _ fun z hz => ?_)
    · unfold wZip
      rcases hd with rfl | rfl <;> rfl
    · obtain ⟨x, hx, rfl⟩ := zip_self hz
      let s3 : Sta := ⟨[some (.dat d), some (.dat d), some (.dat (.bl true)), some (.dat x), some (.dat x)], bg⟩
      exact ⟨s3, s3, s3, rfl, rfl, mapp (s1 := s3) (ds := [x, x]) rfl (hR x hx), rfl⟩
  have e3 : mAndV (mVar 2) (mAndV (m2 gEq (mCall gLen (mCons (mVar 0) mNil)) (mCall gLen (mCons (mVar 1) mNil))) (mCall gAll (mCons (mComp [3, 4] (wZip (mCons (mVar 0) (mCons (mVar 1) mNil))) (hTup 2 (hCons (hName 3) (hCons (hName 4) hNil))) mYes (mApp R (mCons (mVar 3) (mCons (mVar 4) mNil)))) mNil))) s2 = some (.bl true, s2) := by
    show mAndV (m2 gEq (mCall gLen (mCons (mVar 0) mNil)) (mCall gLen (mCons (mVar 1) mNil))) _ s2 = _
    unfold mAndV
    rw [e1, Option.bind_some]
    show mCall gAll _ s2 = _
    unfold mCall
    rw [mcons (s1 := s2) (s2 := s2) e2 rfl, Option.bind_some]
    show (gAll [.lst ((zipD l l).map fun _ => .bl true)]).bind _ = _
    rw [gall_true]
    rfl
  unfold sLlikeB
  refine fnd (s1 := s2) ?_
  have e4 := kret e3
  rcases hd with rfl | rfl
  · unfold kSeq
    rw [kif_t (s1 := ⟨[some (.dat (.lst l)), some (.dat (.lst l)), none, none, none], bg⟩) rfl]
    show (kSeq _ _ _).bind _ = _
    rw [kseq (s1 := s2) rfl, e4]
    rfl
  · unfold kSeq
    rw [kif_t (s1 := ⟨[some (.dat (.tup l)), some (.dat (.tup l)), none, none, none], bg⟩) rfl]
    show (kSeq _ _ _).bind _ = _
    rw [kseq (s1 := s2) rfl, e4]
    rfl
abbrev cpOk (z : Str) : Bool := z.cps.all (· < 0x110000)
theorem eqOk_str {a : Str} (h : cpOk a = true) : eqOk (.str a) = true := by
  show (true && (PyData.canLay0 (.str a) && decide (PyData.depth (.str a) ≤ 64))) = true
  have e : PyData.canLay0 (.str a) = true := h
  rw [e]
  rfl
theorem eqSS {a b : Str} (ha : cpOk a = true) (hb : cpOk b = true) : gEq (.str a) (.str b) = some (.bl (a == b)) := by
  unfold gEq
  rw [eqOk_str ha, eqOk_str hb]
  rfl
theorem like_non {R : FD} (bg : List Dt) : sLlikeB R [.non, .non] bg = some (.bl true, bg) := by
  let s : Sta := ⟨[some (.dat .non), some (.dat .non), none, none, none], bg⟩
  unfold sLlikeB
  refine fnd (s1 := s) ?_
  show kSeq _ _ s = _
  rw [kseq (s1 := s) (by rw [kif_f (s1 := s) rfl]; rfl)]
  unfold kSeq
  rw [kif_t (s1 := s) (or_t rfl)]
  rfl
theorem like_scal {R : FD} (d : Dt) (bg : List Dt) (h1 : isLst d = false) (h2 : isTup d = false) (h3 : isNon d = false) (h4 : gEq (.bl (isInt d)) (.bl (isInt d)) = some (.bl true)) (h5 : gEq (.bl (isStr d)) (.bl (isStr d)) = some (.bl true)) (h6 : gEq d d = some (.bl true)) :
    sLlikeB R [d, d] bg = some (.bl true, bg) := by
  let s : Sta := ⟨[some (.dat d), some (.dat d), none, none, none], bg⟩
  have e1 : mB (mIsi (fun d => isLst d || isTup d) (mVar 1)) s = some (false, s) := by
    show some (isLst d || isTup d, s) = _
    rw [h1, h2]; rfl
  have e2 : mOrB (mB (m2 gIsN (mVar 0) (mC .non))) (mOrB (mB (m2 gIsN (mVar 1) (mC .non))) (mB (m2 gNe (mIsi isBl (mVar 0)) (mIsi isBl (mVar 1))))) s = some (false, s) := by
    rw [or_f (s1 := s), or_f (s1 := s)]
    · show mB (m2 gNe (mIsi isBl (mVar 0)) (mIsi isBl (mVar 1))) s = _
      unfold mB
      rw [m2_eq (s1 := s) (s2 := s) (x := .bl (isBl d)) (y := .bl (isBl d)) (d := .bl false) rfl rfl (by cases isBl d <;> rfl)]
      rfl
    · show some (isNon d, s) = _
      rw [h3]
    · show some (isNon d, s) = _
      rw [h3]
  unfold sLlikeB
  refine fnd (s1 := s) ?_
  show kSeq _ _ s = _
  rw [kseq (s1 := s) (by rw [kif_f e1]; rfl), kseq (s1 := s) (by rw [kif_f e2]; rfl)]
  refine kret ?_
  unfold mAndV
  rw [m2_eq (s1 := s) (s2 := s) (x := .bl (isInt d)) (y := .bl (isInt d)) rfl rfl h4, Option.bind_some]
  dsimp only
  rw [m2_eq (s1 := s) (s2 := s) (x := .bl (isStr d)) (y := .bl (isStr d)) rfl rfl h5, Option.bind_some]
  dsimp only
  exact m2_eq (s1 := s) (s2 := s) (x := d) (y := d) rfl rfl h6
theorem like_refl : ∀ (n : Nat) (d : Dt) (bg : List Dt), okD n d = true → sLlike n [d, d] bg = some (.bl true, bg)
  | 0, _, _, h => by cases h
  | n + 1, d, bg, h => by
    cases d with
    | bag => cases h
    | dic ks l => cases h
    | ins c ks l => cases h
    | err c ks l => cases h
    | old l => cases h
    | tup l =>
      unfold okD at h
      rw [Bool.and_eq_true] at h
      exact like_seq (.inr rfl) (of_decide_eq_true h.1) fun x hx => like_refl n x bg (List.all_eq_true.mp h.2 x hx)
    | lst l =>
      unfold okD at h
      rw [Bool.and_eq_true] at h
      exact like_seq (.inl rfl) (of_decide_eq_true h.1) fun x hx => like_refl n x bg (List.all_eq_true.mp h.2 x hx)
    | non => exact like_non bg
    | bl b => exact like_scal (.bl b) bg rfl rfl rfl rfl rfl (by cases b <;> rfl)
    | int i => exact like_scal (.int i) bg rfl rfl rfl rfl rfl (by rw [eqII, beq_self_eq_true])
    | str z =>
      have hz : cpOk z = true := by unfold okD at h; exact h
      exact like_scal (.str z) bg rfl rfl rfl rfl rfl (by rw [eqSS hz hz, beq_self_eq_true])
theorem mBt {f : DM Dt} {s s1 : Sta} {b : Bool} (h : f s = some (.bl b, s1)) : mB f s = some (b, s1) := by unfold mB; rw [h]; rfl
theorem andV_t {f g : DM Dt} {s s1 : Sta} (h : f s = some (.bl true, s1)) : mAndV f g s = g s1 := by unfold mAndV; rw [h]; rfl
theorem andV_f {f g : DM Dt} {s s1 : Sta} (h : f s = some (.bl false, s1)) : mAndV f g s = some (.bl false, s1) := by unfold mAndV; rw [h]; rfl
theorem mcall {g : List Dt → Option Dt} {f : DM (List Dt)} {s s1 : Sta} {l : List Dt} {d : Dt} (h : f s = some (l, s1)) (e : g l = some d) : mCall g f s = some (d, s1) := by unfold mCall; rw [h, Option.bind_some, e]; rfl
theorem mchain_t {g g' : Dt → Dt → Option Dt} {f1 f2 f3 : DM Dt} {s s1 s2 s3 : Sta} {x y z d : Dt} (h1 : f1 s = some (x, s1)) (h2 : f2 s1 = some (y, s2)) (h3 : g x y = some (.bl true)) (h4 : f3 s2 = some (z, s3)) (h5 : g' y z = some d) : mChain g g' f1 f2 f3 s = some (d, s3) := by
  unfold mChain; rw [h1, Option.bind_some, h2, Option.bind_some]; dsimp only; rw [h3, Option.bind_some]; dsimp only; rw [h4, Option.bind_some]; dsimp only; rw [h5]; rfl
theorem mchain_f {g g' : Dt → Dt → Option Dt} {f1 f2 f3 : DM Dt} {s s1 s2 : Sta} {x y : Dt} (h1 : f1 s = some (x, s1)) (h2 : f2 s1 = some (y, s2)) (h3 : g x y = some (.bl false)) : mChain g g' f1 f2 f3 s = some (.bl false, s2) := by
  unfold mChain; rw [h1, Option.bind_some, h2, Option.bind_some]; dsimp only; rw [h3]; rfl
theorem bools_map (f : Dt → Bool) : ∀ (l : List Dt), bools (l.map fun d => .bl (f d)) = some (l.map f)
  | [] => rfl
  | d :: l => by
    show (bools (l.map fun d => .bl (f d))).bind _ = _
    rw [bools_map f l]
    rfl
theorem gall_map (f : Dt → Bool) (l : List Dt) : gAll [.lst (l.map fun d => .bl (f d))] = some (.bl (l.all f)) := by
  show (bools (l.map fun d => .bl (f d))).bind _ = _
  rw [bools_map, Option.bind_some, List.all_map]
  rfl
def letB : Dt → Bool
  | .str z => !(strLt z "a") && !(strLt "z" z)
  | _ => false
theorem lt1 (a b : Nat) : ([a] < [b]) ↔ a < b := by
  constructor
  · intro h
    cases h with
    | rel h => exact h
    | cons h => cases h
  · intro h
    exact List.Lex.rel h
theorem letB_c (c : Nat) : letB (.str ⟨#[c]⟩) = (decide (97 ≤ c) && decide (c ≤ 122)) := by
  have ea : ("a" : Str).cps.toList = [97] := by decide +kernel
  have ez : ("z" : Str).cps.toList = [122] := by decide +kernel
  show (!(decide ((⟨#[c]⟩ : Str).cps.toList < ("a" : Str).cps.toList)) && !(decide (("z" : Str).cps.toList < (⟨#[c]⟩ : Str).cps.toList))) = _
  rw [ea, ez]
  show (!(decide ([c] < [97])) && !(decide ([122] < [c]))) = _
  have h1 : decide ([c] < [97]) = decide (c < 97) := decide_eq_decide.mpr (lt1 c 97)
  have h2 : decide ([122] < [c]) = decide (122 < c) := decide_eq_decide.mpr (lt1 122 c)
  rw [h1, h2]
  by_cases a : c < 97
  · have : ¬ 97 ≤ c := by omega
    simp [a, this]
  · by_cases b : 122 < c
    · have : ¬ c ≤ 122 := by omega
      simp [b, this]
    · have h3 : 97 ≤ c := by omega
      have h4 : c ≤ 122 := by omega
      simp [a, b, h3, h4]
theorem resv_tup (z : Str) : gIn (.str z) s_RESERVED = some (.bl (resv.contains z)) := by
  show (if (flatD (.str z) && (resv.map Dt.str).all flatD) = true then some (Dt.bl ((resv.map Dt.str).any fun d => sameD d (.str z))) else none) = _
  rw [if_pos (show (flatD (.str z) && (resv.map Dt.str).all flatD) = true from rfl), List.any_map]
  show some (Dt.bl (resv.any fun r => r == z)) = _
  congr 2
  rw [List.contains_eq_any_beq]
  congr 1
  funext r
  exact Bool.beq_comm
theorem is_name_str (z : Str) (bg : List Dt) (hz : z.length ≤ 100000) : sis_name [.str z] bg = some (.bl (nameB z), bg) := by
  let s : Sta := ⟨[some (.dat (.str z)), none], bg⟩
  have hl : gLen [.str z] = some (.int (z.length : Nat)) := glen_str (Nat.le_trans hz (by decide))
  have ein : mOrB (mNotB (mB (mIsi isStr (mVar 0)))) (mB (m2 gIn (mVar 0) (mC s_RESERVED))) s = some (resv.contains z, s) := by
    rw [or_f (s1 := s) rfl]
    exact mBt (m2_eq (s1 := s) (s2 := s) (x := .str z) (y := s_RESERVED) rfl rfl (resv_tup z))
  have elen : mCall gLen (mCons (mVar 0) mNil) s = some (.int (z.length : Nat), s) := mcall (s1 := s) (l := [.str z]) rfl hl
  have ecomp : mCall gAll (mCons (mComp [1] (wStr (mVar 0)) (hName 1) mYes (mChain oLe oLe (mC (.str "a")) (mVar 1) (mC (.str "z")))) mNil) s = some (.bl (lowB z), s) := by
    have e : mComp [1] (wStr (mVar 0)) (hName 1) mYes (mChain oLe oLe (mC (.str "a")) (mVar 1) (mC (.str "z"))) s = some (.lst ((z.cps.toList.map fun c => Dt.str ⟨#[c]⟩).map fun d => .bl (letB d)), s) := by
      refine mcomp (s1 := s) (l := z.cps.toList.map fun c => Dt.str ⟨#[c]⟩) rfl (by rw [List.length_map]; simpa [Str.length] using hz) (comp_map (fun d => .bl (letB d)) _ fun d hd => ?_)
      obtain ⟨c, hc, rfl⟩ := List.mem_map.mp hd
      let s' : Sta := ⟨[some (.dat (.str z)), some (.dat (.str ⟨#[c]⟩))], bg⟩
      refine ⟨s', s', s', rfl, rfl, ?_, rfl⟩
      by_cases h : strLt ⟨#[c]⟩ "a" = true
      · have e1 : letB (.str ⟨#[c]⟩) = false := by show (!strLt ⟨#[c]⟩ "a" && !strLt "z" ⟨#[c]⟩) = _; rw [h]; rfl
        rw [e1]
        exact mchain_f (s1 := s') (s2 := s') (x := .str "a") (y := .str ⟨#[c]⟩) rfl rfl (by show some (Dt.bl !(strLt ⟨#[c]⟩ "a")) = _; rw [h]; rfl)
      · rw [Bool.not_eq_true] at h
        have e1 : letB (.str ⟨#[c]⟩) = !(strLt "z" ⟨#[c]⟩) := by show (!strLt ⟨#[c]⟩ "a" && !strLt "z" ⟨#[c]⟩) = _; rw [h]; rfl
        rw [e1]
        exact mchain_t (s1 := s') (s2 := s') (s3 := s') (x := .str "a") (y := .str ⟨#[c]⟩) (z := .str "z") rfl rfl (by show some (Dt.bl !(strLt ⟨#[c]⟩ "a")) = _; rw [h]; rfl) rfl rfl
    refine mcall (mcons e rfl) ?_
    rw [gall_map, List.all_map]
    congr 2
    unfold lowB
    congr 1
    funext c
    exact letB_c c
  unfold sis_name
  refine fnd (s1 := s) ?_
  show kSeq _ _ s = _
  by_cases hr : resv.contains z = true
  · have en : nameB z = false := by unfold nameB; rw [hr]; simp
    rw [hr] at ein
    unfold kSeq
    rw [kif_t ein, en]
    rfl
  · rw [Bool.not_eq_true] at hr
    rw [hr] at ein
    rw [kseq (s1 := s) (by rw [kif_f ein]; rfl)]
    refine kret ?_
    by_cases h1 : 1 ≤ z.length
    · by_cases h6 : z.length ≤ 6
      · have en : nameB z = lowB z := by unfold nameB; rw [hr]; simp [h1, h6]
        rw [en, andV_t (s1 := s)]
        · exact ecomp
        · exact mchain_t (s1 := s) (s2 := s) (s3 := s) (x := .int 1) (y := .int (z.length : Nat)) (z := .int 6) rfl elen (by show some (Dt.bl (decide ((1 : Int) ≤ (z.length : Nat)))) = _; rw [decide_eq_true (by omega)]) rfl (by show some (Dt.bl (decide (((z.length : Nat) : Int) ≤ 6))) = _; rw [decide_eq_true (by omega)])
      · have en : nameB z = false := by unfold nameB; simp [h6]
        rw [en]
        refine andV_f ?_
        exact mchain_t (s1 := s) (s2 := s) (s3 := s) (x := .int 1) (y := .int (z.length : Nat)) (z := .int 6) rfl elen (by show some (Dt.bl (decide ((1 : Int) ≤ (z.length : Nat)))) = _; rw [decide_eq_true (by omega)]) rfl (by show some (Dt.bl (decide (((z.length : Nat) : Int) ≤ 6))) = _; rw [decide_eq_false (by omega)])
    · have en : nameB z = false := by unfold nameB; simp [h1]
      rw [en]
      refine andV_f ?_
      exact mchain_f (s1 := s) (s2 := s) (x := .int 1) (y := .int (z.length : Nat)) rfl elen (by show some (Dt.bl (decide ((1 : Int) ≤ (z.length : Nat)))) = _; rw [decide_eq_false (by omega)])
def ColOk (c : Str) : Prop := c = "key" ∨ NameOk c
theorem name_len {z : Str} (h : NameOk z) : z.length ≤ 100000 := Nat.le_trans h.few (by decide)
theorem is_name_ok {z : Str} (h : NameOk z) (bg : List Dt) : sis_name [.str z] bg = some (.bl true, bg) := by
  rw [is_name_str z bg (name_len h), nameB_iff.mpr h]
def big : Int := 1000000000000000000000000000000
def Bnd (i : Int) : Prop := -big ≤ i ∧ i ≤ big
inductive Sg where
  | number (i : Int) | name (n : Str) | field (n c : Str) | own (c : Str) | next (c : Str)
def Sg.Ok : Sg → Prop
  | .number i => Bnd i
  | .name n => NameOk n
  | .field n c => NameOk n ∧ ColOk c
  | .own c => ColOk c
  | .next c => ColOk c
theorem loop_inv {h : Dt → Sta → Option Sta} {b : DMs} (I : Sta → Prop) (hs : ∀ d s, I s → ∃ s1 r s2, h d s = some s1 ∧ b s1 = some (r, s2) ∧ (r = .nx ∨ r = .ct) ∧ I s2) : ∀ (l : List Dt) (s : Sta), I s → ∃ s', loopD h b l s = some (.nx, s') ∧ I s'
  | [], s, hi => ⟨s, rfl, hi⟩
  | d :: l, s, hi => by
    obtain ⟨s1, r, s2, e1, e2, hr, h2⟩ := hs d s hi
    obtain ⟨s', e3, h3⟩ := loop_inv I hs l s2 h2
    refine ⟨s', ?_, h3⟩
    unfold loopD
    rw [e1, Option.bind_some, e2, Option.bind_some]
    rcases hr with rfl | rfl <;> exact e3
theorem kfor_rng {h : Dt → Sta → Option Sta} {b : DMs} {n : Int} {s s' : Sta} (h0 : 0 ≤ n) (h1 : n < 1000000) (e : loopD h b (rngD 0 n.toNat) s = some (.nx, s')) : kFor (wRng1 (mCons (mC (.int n)) mNil)) h b s = some (.nx, s') := by
  unfold kFor
  rw [mrng1 (s1 := s) (j := n) rfl h0 h1, Option.bind_some]
  exact e
end DL
namespace DL
open PySem PySem.Spec PyProof.Rows L2
variable [Tabs] [Me]
theorem comp_rel {sl0 : List (Option Slo)} {h : Dt → Sta → Option Sta} {t : DM Bool} {e : DM Dt} (Pd Pr : Dt → Prop) (Q : Dt → Dt → Prop)
    (hstep : ∀ d bg, Pd d → BagOk bg → ∃ s1 s2 r s3, h d ⟨sl0, bg⟩ = some s1 ∧ t s1 = some (true, s2) ∧ e s2 = some (r, s3) ∧ Pr r ∧ Q d r ∧ BagOk s3.bag) :
    ∀ (l : List Dt) (bg : List Dt), (∀ d ∈ l, Pd d) → BagOk bg → ∃ rs bg', compD sl0 h t e l bg = some (rs, bg') ∧ rs.length = l.length ∧ (∀ r ∈ rs, Pr r) ∧ (∀ (i : Nat) (d r : Dt), l[i]? = some d → rs[i]? = some r → Q d r) ∧ BagOk bg'
  | [], bg, _, hb => ⟨[], bg, rfl, rfl, by simp, by simp, hb⟩
  | d :: l, bg, hp, hb => by
    obtain ⟨s1, s2, r, s3, e1, e2, e3, hr, hq, hb3⟩ := hstep d bg (hp d (List.mem_cons_self ..)) hb
    obtain ⟨rs, bg', e4, hl, hrs, hqs, hb'⟩ := comp_rel Pd Pr Q hstep l s3.bag (fun z hz => hp z (List.mem_cons_of_mem _ hz)) hb3
    refine ⟨r :: rs, bg', ?_, by simp [hl], ?_, ?_, hb'⟩
    · unfold compD
      rw [e1, Option.bind_some, e2, Option.bind_some]
      dsimp only
      rw [if_pos rfl, e3, Option.bind_some, e4]
      rfl
    · intro z hz
      rcases List.mem_cons.mp hz with rfl | hz
      · exact hr
      · exact hrs z hz
    · intro i x y hx hy
      cases i with
      | zero => cases hx; cases hy; exact hq
      | succ i => exact hqs i x y hx hy
theorem abc_at : ∀ t : Nat, t < 52 → atI abc.cps.toList ((t : Int) - 26) = some (97 + t % 26) := by decide +kernel
theorem str_toList {a b : Str} : (a ++ b).cps.toList = a.cps.toList ++ b.cps.toList := by show (a.cps ++ b.cps).toList = _; simp
theorem mid_inj {p q : Str} {c c' : Nat} (h : p ++ ⟨#[c]⟩ ++ q = p ++ ⟨#[c']⟩ ++ q) : c = c' := by
  have e := congrArg (fun z : Str => z.cps.toList) h
  simp only [str_toList] at e
  have e2 := List.append_cancel_right e
  have e3 := List.append_cancel_left e2
  simpa using e3
theorem endq_inj {x y : Str} (h : x ++ "q" = y ++ "q") : x = y := by
  have e := congrArg (fun z : Str => z.cps.toList) h
  simp only [str_toList] at e
  have e2 := List.append_cancel_right e
  cases x; cases y
  exact congrArg Str.mk (by simpa using e2)
theorem nd_of {rows ns : List Str} {m : Nat} {fi : Int} {p q : Str} (l5 : rows.length = m) (l6 : ns.length = m) (h0 : m ≤ 26) (f0 : 0 ≤ fi) (f1 : fi < 26)
    (q5 : ∀ (i : Nat) (d r : Dt), (rngD 0 m)[i]? = some d → (rows.map Dt.str)[i]? = some r → ∃ (k c : Nat), d = .int (0 + (k : Nat)) ∧ atI abc.cps.toList (fi + (0 + (k : Nat)) - 26) = some c ∧ r = .str (p ++ ⟨#[c]⟩ ++ q))
    (q6 : ∀ (i : Nat) (d r : Dt), (rows.map Dt.str)[i]? = some d → (ns.map Dt.str)[i]? = some r → ∃ z, d = .str z ∧ ((z ∈ resv ∧ r = .str (z ++ "q")) ∨ (z ∉ resv ∧ r = .str z))) : ns.Nodup := by
  refine List.pairwise_iff_getElem.mpr fun i j hi hj hij => ?_
  have row : ∀ (i : Nat) (hi : i < ns.length), ∃ x : Str, x = p ++ ⟨#[97 + (fi.toNat + i) % 26]⟩ ++ q ∧ ((x ∈ resv ∧ ns[i] = x ++ "q") ∨ (x ∉ resv ∧ ns[i] = x)) := fun i hi => by
    have hi' : i < rows.length := by omega
    have hm : i < m := by omega
    obtain ⟨k, c, e1, e2, e3⟩ := q5 i (.int (0 + (i : Nat))) (.str rows[i]) (by simp [rngD, hm]) (by simp [hi'])
    have hk : k = i := by
      have := Dt.int.inj e1
      omega
    subst hk
    have e4 := abc_at (fi.toNat + k) (by omega)
    have e5 : ((fi.toNat + k : Nat) : Int) - 26 = fi + (0 + (k : Nat)) - 26 := by omega
    rw [e5, e2] at e4
    cases e4
    obtain ⟨z, e6, e7⟩ := q6 k (.str rows[k]) (.str ns[k]) (by simp [hi']) (by simp [hi])
    have ez : rows[k] = z := Dt.str.inj e6
    refine ⟨rows[k], Dt.str.inj e3, ?_⟩
    rw [ez]
    rcases e7 with ⟨a, b⟩ | ⟨a, b⟩
    · exact .inl ⟨a, Dt.str.inj b⟩
    · exact .inr ⟨a, Dt.str.inj b⟩
  obtain ⟨x, ex, hx⟩ := row i hi
  obtain ⟨y, ey, hy⟩ := row j hj
  have ne : x ≠ y := fun z => by
    rw [ex, ey] at z
    have := mid_inj z
    omega
  have le : x.length = y.length := by
    rw [ex, ey, len_app, len_app, len_app, len_app]
    rfl
  rcases hx with ⟨_, hx⟩ | ⟨_, hx⟩ <;> rcases hy with ⟨_, hy⟩ | ⟨_, hy⟩ <;> rw [hx, hy] <;> intro z
  · exact ne (endq_inj z)
  · have := congrArg Str.length z
    rw [len_app] at this
    have e1 : ("q" : Str).length = 1 := rfl
    omega
  · have := congrArg Str.length z
    rw [len_app] at this
    have e1 : ("q" : Str).length = 1 := rfl
    omega
  · exact ne z
theorem new_names_nd {bg : List Dt} (h : BagOk bg) {m : Nat} (h0 : m ≤ 26) : ∃ (ns : List Str) (bg' : List Dt), sLnew_names [.bag, .int m] bg = some (.lst (ns.map Dt.str), bg') ∧ ns.length = m ∧ (∀ z ∈ ns, NameOk z) ∧ ns.Nodup ∧ BagOk bg' := by
  obtain ⟨r, bg1, e1, r0, r1, hb1⟩ := pull_ok h (n := 5) (by decide) (by decide)
  -- the stem
  obtain ⟨rs, bg2, e2, l2, p2, hb2⟩ := comp_all (sl0 := [some (.dat .bag), some (.dat (.int m)), some (.dat (.str abc)), none, none, none, none, none, none]) (h := hName 7) (t := mYes) (e := mApp sLany (mCons (mVar 0) (mCons (mVar 2) mNil))) (fun _ => True) (fun d => ∃ z, d = .str z ∧ (Low z ∧ z.length = 1)) (fun d bg _ hb => by
    obtain ⟨c, bg', e, hc, hb'⟩ := any_str hb (z := abc) (by rw [len_abc]; decide) (by rw [len_abc]; decide)
    refine ⟨_, _, .str ⟨#[c]⟩, ⟨[some (.dat .bag), some (.dat (.int m)), some (.dat (.str abc)), none, none, none, none, some (.dat d), none], bg'⟩, rfl, rfl, ?_, ⟨_, rfl, fun k hk => ?_, rfl⟩, hb'⟩
    · exact mapp (s1 := ⟨[some (.dat .bag), some (.dat (.int m)), some (.dat (.str abc)), none, none, none, none, some (.dat d), none], bg⟩) rfl e
    · have : k = c := by simpa using hk
      rw [this]
      exact low_abc c hc) (rngD 0 r.toNat) bg1 (fun _ _ => trivial) hb1
  rw [rng_len] at l2
  obtain ⟨ss, rfl, hss⟩ := strs_of p2
  rw [List.length_map] at l2
  have hj := low_join (l := ss) fun z hz => (hss z hz).1
  rw [sum_ones fun z hz => (hss z hz).2, l2] at hj
  have hjn := gjoin_ok (ss := ss) (by rw [sum_ones fun z hz => (hss z hz).2, l2]; omega)
  generalize Str.join "" ss = stem at hj hjn
  obtain ⟨hlow, hlen⟩ := hj
  have hlen4 : stem.length ≤ 4 := by omega
  obtain ⟨at_, bg3, e3, a0, a1, hb3⟩ := pull_ok hb2 (n := (stem.length : Nat) + 1) (by omega) (by omega)
  obtain ⟨fi, bg4, e4, f0, f1, hb4⟩ := pull_ok hb3 (n := 26) (by decide) (by decide)
  obtain ⟨i, rfl⟩ : ∃ i : Nat, at_ = (i : Int) := ⟨at_.toNat, by omega⟩
  have hi : i ≤ stem.length := by omega
  -- the rows
  obtain ⟨rs4, bg5, e5, l5, p5, q5, hb5⟩ := comp_rel (sl0 := [some (.dat .bag), some (.dat (.int m)), some (.dat (.str abc)), some (.dat (.str stem)), none, some (.dat (.int (i : Nat))), some (.dat (.int fi)), none, none]) (h := hName 7) (t := mYes)
    (e := m2 gAdd (m2 gAdd (mSl (mVar 3) mNoP (mPart (mVar 5))) (m2 gIx (mVar 2) (m2 gSub0 (m2 gAdd (mVar 6) (mVar 7)) (mC (.int 26))))) (mSl (mVar 3) (mPart (mVar 5)) mNoP))
    (fun d => ∃ k : Nat, k < m ∧ d = .int (0 + (k : Nat))) (fun d => ∃ z, d = .str z ∧ (Low z ∧ 1 ≤ z.length ∧ z.length ≤ 5)) (fun d r => ∃ (k c : Nat), d = .int (0 + (k : Nat)) ∧ atI abc.cps.toList (fi + (0 + (k : Nat)) - 26) = some c ∧ r = .str (cutS stem none (some (i : Nat)) ++ ⟨#[c]⟩ ++ cutS stem (some (i : Nat)) none)) (fun d bg hd hb => by
    obtain ⟨k, hk, rfl⟩ := hd
    have hc : ∃ c, atI abc.cps.toList (fi + (0 + (k : Nat)) - 26) = some c ∧ c ∈ abc.cps.toList := by
      have hl : abc.cps.toList.length = 26 := by rw [← len_abc]; simp [Str.length]
      have hx : ∃ j, ixN abc.cps.toList.length (fi + (0 + (k : Nat)) - 26) = some j ∧ j < 26 := by
        rw [hl]
        unfold ixN
        by_cases c0 : 0 ≤ fi + (0 + (k : Nat)) - 26
        · rw [if_pos c0, if_pos (by omega)]
          exact ⟨_, rfl, by omega⟩
        · rw [if_neg c0, if_pos (by omega)]
          exact ⟨_, rfl, by omega⟩
      obtain ⟨j, ej, hj⟩ := hx
      refine ⟨abc.cps.toList[j]'(by omega), ?_, List.getElem_mem _⟩
      unfold atI
      rw [ej]
      show abc.cps.toList[j]? = _
      simp [hl, hj]
    obtain ⟨c, ec, hc⟩ := hc
    have hcut := len_cut (z := stem) hi
    have lc : (⟨#[c]⟩ : Str).length = 1 := rfl
    let s7 : Sta := ⟨[some (.dat .bag), some (.dat (.int m)), some (.dat (.str abc)), some (.dat (.str stem)), none, some (.dat (.int (i : Nat))), some (.dat (.int fi)), some (.dat (.int (0 + (k : Nat)))), none], bg⟩
    refine ⟨s7, s7, .str (cutS stem none (some (i : Nat)) ++ ⟨#[c]⟩ ++ cutS stem (some (i : Nat)) none), s7, rfl, rfl, ?_, ⟨_, rfl, ?_, ?_, ?_⟩, ⟨k, c, rfl, ec, rfl⟩, hb⟩
    · refine m2_eq (s1 := s7) (x := .str (cutS stem none (some (i : Nat)) ++ ⟨#[c]⟩)) (y := .str (cutS stem (some (i : Nat)) none)) ?_ ?_ ?_
      · refine m2_eq (s1 := s7) (x := .str (cutS stem none (some (i : Nat)))) (y := .str ⟨#[c]⟩) ?_ ?_ ?_
        · exact msl (s1 := s7) (s2 := s7) (x := .str stem) rfl rfl rfl (gsl_str (by omega))
        · exact m2_eq (s1 := s7) (x := .str abc) (y := .int (fi + (0 + (k : Nat)) - 26)) rfl rfl (gix_str (by rw [len_abc]; decide) ec)
        · exact gadd_str (by rw [lc]; omega)
      · exact msl (s1 := s7) (s2 := s7) (x := .str stem) rfl rfl rfl (gsl_str (by omega))
      · exact gadd_str (by rw [len_app, lc]; omega)
    · refine low_app (low_app (low_cut hlow _ _) fun y hy => ?_) (low_cut hlow _ _)
      have : y = c := by simpa using hy
      rw [this]
      exact low_abc c hc
    · rw [len_app, len_app, lc]; omega
    · rw [len_app, len_app, lc]; omega) (rngD 0 m) bg4 (fun d hd => rng_mem hd) hb4
  rw [rng_len] at l5
  obtain ⟨rows, rfl, hrows⟩ := strs_of p5
  rw [List.length_map] at l5
  -- no reserved ones
  obtain ⟨rs6, bg6, e6, l6, p6, q6, hb6⟩ := comp_rel (sl0 := [some (.dat .bag), some (.dat (.int m)), some (.dat (.str abc)), some (.dat (.str stem)), some (.dat (.lst (rows.map Dt.str))), some (.dat (.int (i : Nat))), some (.dat (.int fi)), none, none]) (h := hName 8) (t := mYes)
    (e := mIf (mB (m2 gIn (mVar 8) (mApp sLreserved mNil))) (m2 gAdd (mVar 8) (mC (.str "q"))) (mVar 8))
    (fun d => ∃ z, d = .str z ∧ (Low z ∧ 1 ≤ z.length ∧ z.length ≤ 5)) (fun d => ∃ z, d = .str z ∧ NameOk z) (fun d r => ∃ z, d = .str z ∧ ((z ∈ resv ∧ r = .str (z ++ "q")) ∨ (z ∉ resv ∧ r = .str z))) (fun d bg hd hb => by
    obtain ⟨z, rfl, hz, z1, z5⟩ := hd
    let s8 : Sta := ⟨[some (.dat .bag), some (.dat (.int m)), some (.dat (.str abc)), some (.dat (.str stem)), some (.dat (.lst (rows.map Dt.str))), some (.dat (.int (i : Nat))), some (.dat (.int fi)), none, some (.dat (.str z))], bg⟩
    have hin : mB (m2 gIn (mVar 8) (mApp sLreserved mNil)) s8 = some (resv.any (fun r => r == z), s8) := by
      unfold mB
      rw [m2_eq (s1 := s8) (s2 := s8) (x := .str z) (y := .lst (resv.map Dt.str)) rfl rfl (in_resv z)]
      rfl
    by_cases hr : z ∈ resv
    · have hx : resv.any (fun r => r == z) = true := List.any_eq_true.mpr ⟨z, hr, by simp⟩
      refine ⟨s8, s8, .str (z ++ "q"), s8, rfl, rfl, ?_, ⟨_, rfl, nameB_iff.mp (resv_q z hr)⟩, ⟨z, rfl, .inl ⟨hr, rfl⟩⟩, hb⟩
      unfold mIf
      rw [hin, hx]
      show m2 gAdd (mVar 8) (mC (.str "q")) s8 = _
      exact m2_eq (s1 := s8) (s2 := s8) (x := .str z) (y := .str "q") rfl rfl (gadd_str (by show z.length + 1 ≤ 1000; omega))
    · have hx : resv.any (fun r => r == z) = false := by
        rw [List.any_eq_false]
        intro r hr' e
        rw [beq_iff_eq] at e
        subst e
        exact hr hr'
      refine ⟨s8, s8, .str z, s8, rfl, rfl, ?_, ⟨_, rfl, ⟨hz, z1, by omega, hr⟩⟩, ⟨z, rfl, .inr ⟨hr, rfl⟩⟩, hb⟩
      unfold mIf
      rw [hin, hx]
      rfl) (rows.map Dt.str) bg5 (fun d hd => by
        obtain ⟨z, hz, rfl⟩ := List.mem_map.mp hd
        exact ⟨z, rfl, hrows z hz⟩) hb5
  rw [List.length_map, l5] at l6
  obtain ⟨ns, rfl, hns⟩ := strs_of p6
  rw [List.length_map] at l6
  refine ⟨ns, bg6, ?_, l6, hns, nd_of (fi := fi) l5 l6 h0 f0 f1 q5 q6, hb6⟩
  unfold sLnew_names
  let t1 : Sta := ⟨[some (.dat .bag), some (.dat (.int m)), some (.dat (.str abc)), none, none, none, none, none, none], bg⟩
  let t2 : Sta := ⟨[some (.dat .bag), some (.dat (.int m)), some (.dat (.str abc)), some (.dat (.str stem)), none, none, none, none, none], bg2⟩
  let t3 : Sta := ⟨[some (.dat .bag), some (.dat (.int m)), some (.dat (.str abc)), some (.dat (.str stem)), none, some (.dat (.int (i : Nat))), some (.dat (.int fi)), none, none], bg4⟩
  let t4 : Sta := ⟨[some (.dat .bag), some (.dat (.int m)), some (.dat (.str abc)), some (.dat (.str stem)), some (.dat (.lst (rows.map Dt.str))), some (.dat (.int (i : Nat))), some (.dat (.int fi)), none, none], bg5⟩
  refine fnd (s1 := { t4 with bag := bg6 }) ?_
  show kSeq _ _ ⟨[some (.dat .bag), some (.dat (.int m)), none, none, none, none, none, none, none], bg⟩ = _
  rw [kseq (s1 := t1) rfl]
  rw [kseq (s1 := t2)]
  · rw [kseq (s1 := t3)]
    · rw [kseq (s1 := t4)]
      · exact kret (mcomp (s1 := t4) rfl (by rw [List.length_map, l5]; omega) e6)
      · refine kasg (s1 := { t3 with bag := bg5 }) (d := .lst (rows.map Dt.str)) ?_ rfl
        refine mcomp (s1 := t3) (l := rngD 0 m) ?_ (by rw [rng_len]; omega) e5
        exact mrng1 (j := (m : Nat)) rfl (by omega) (by omega)
    · refine kasg (s1 := { t2 with bag := bg4 }) (d := .tup [.int (i : Nat), .int fi]) ?_ rfl
      refine mtup (mcons (s1 := { t2 with bag := bg3 }) ?_ (mcons (s1 := { t2 with bag := bg4 }) ?_ rfl))
      · refine mapp (s1 := t2) (ds := [.bag, .int ((stem.length : Nat) + 1)]) ?_ e3
        refine mcons (s1 := t2) rfl (mcons (s1 := t2) ?_ rfl)
        refine m2_eq (s1 := t2) (x := .int (stem.length : Nat)) (y := .int 1) ?_ rfl rfl
        unfold mCall
        show (gLen [.str stem]).bind _ = _
        rw [glen_str (Nat.le_trans hlen4 (by decide))]
        rfl
      · exact mapp (s1 := { t2 with bag := bg3 }) (ds := [.bag, .int 26]) rfl e4
  · refine kasg (s1 := { t1 with bag := bg2 }) (d := .str stem) ?_ rfl
    refine mm1 (s1 := t1) (y := .lst (ss.map Dt.str)) rfl ?_ hjn
    refine mcomp (s1 := { t1 with bag := bg1 }) (l := rngD 0 r.toNat) ?_ (by rw [rng_len]; omega) e2
    refine mrng1 ?_ r0 (by omega)
    exact mcons (s1 := { t1 with bag := bg1 }) (mapp (s1 := t1) (ds := [.bag, .int 5]) rfl e1) rfl
end DL
namespace DL
open PySem PySem.Spec PyProof.Rows L2
variable [Tabs] [Me]
open TL
abbrev itxt (i : Int) : Str := Str.ofString (toString i)
theorem itxt_nat (n : Nat) : tl (itxt (n : Nat)) = numL n := tl_num n
theorem itxt_neg (m : Nat) : tl (itxt (Int.negSucc m)) = 45 :: numL (m + 1) := by
  have e : toString (Int.negSucc m) = "-" ++ toString ((m + 1 : Nat) : Int) := rfl
  show (Str.ofString (toString (Int.negSucc m))).cps.toList = _
  rw [e, PyProof.Rows.signs_ofString, String.toList_append, List.map_append, ← PyProof.Rows.signs_ofString (toString ((m + 1 : Nat) : Int))]
  rw [show (Str.ofString (toString ((m + 1 : Nat) : Int))).cps.toList = numL (m + 1) from tl_num (m + 1)]
  rfl
def sgText : Sg → Str
  | .number i => itxt i
  | .name n => n
  | .field n c => n ++ "." ++ c
  | .own c => "own" ++ "." ++ c
  | .next c => "next" ++ "." ++ c
theorem cut1 {m : Nat} : cutS (itxt (Int.negSucc m)) (some 1) none = itxt ((m + 1 : Nat) : Int) := by
  apply ext_tl
  have hlen : (itxt (Int.negSucc m)).cps.toList = 45 :: numL (m + 1) := itxt_neg m
  have hn : (itxt (Int.negSucc m)).length = (numL (m + 1)).length + 1 := by rw [len_tl, itxt_neg]; rfl
  show ((((itxt (Int.negSucc m)).cps.toList.drop (HT.sIx (itxt (Int.negSucc m)).length 0 (some ((1 : Nat) : Int)))).take _).toArray).toList = tl (itxt ((m + 1 : Nat) : Int))
  rw [hlen, HT.sIx_nat, HT.sIx_none, hn, itxt_nat]
  have e : min 1 ((numL (m + 1)).length + 1) = 1 := by omega
  have e3 : HT.sIx ((numL (m + 1)).length + 1) 0 (some 1) = 1 := by
    rw [show (some (1 : Int)) = some ((1 : Nat) : Int) from rfl, HT.sIx_nat]; omega
  rw [e]
  show List.take _ (numL (m + 1)) = numL (m + 1)
  exact List.take_of_length_le (by rw [e3]; omega)
def valParts (v : Sg) : Option Int → List Str
  | none => [sgText v]
  | some m => [sgText v, if m < 0 then ("-" : Str) else ("+" : Str), itxt ((m.natAbs : Nat) : Int)]
end DL
namespace DL
open PySem PySem.Spec PyProof.Rows L2
variable [Tabs] [Me]
open TL
inductive Cp where
  | le | lt | eq
def Cp.sign : Cp → Str
  | .le => "<="
  | .lt => "<"
  | .eq => "="
inductive Cn where
  | tru | cmp (k : Cp) (v : Sg) (o : Option Int) (w : Sg) (p : Option Int) | fnd (r : Str) | nt (c : Cn) | bin (k : Bool) (a b : Cn)
def bw : Bool → Str
  | true => "and"
  | false => "or"
def Cn.Ok : Cn → Prop
  | .tru => True
  | .cmp _ v o w p => v.Ok ∧ (∀ m, o = some m → Bnd m) ∧ w.Ok ∧ ∀ m, p = some m → Bnd m
  | .fnd r => NameOk r
  | .nt c => c.Ok
  | .bin _ a b => a.Ok ∧ b.Ok
def Cn.size : Cn → Nat
  | .nt c => c.size + 1
  | .bin _ a b => a.size + b.size + 1
  | _ => 1
def Cn.toks : Cn → List Str
  | .tru => [("true" : Str)]
  | .cmp k v o w p => valParts v o ++ (k.sign :: valParts w p)
  | .fnd r => [("found" : Str), r]
  | .nt c => ("not" : Str) :: c.toks
  | .bin k a b => ("(" : Str) :: (a.toks ++ (bw k :: (b.toks ++ [(")" : Str)])))
def r1 (c : Nat) : List Nat := if c = 40 then [40, 32] else [c]
def r2 (c : Nat) : List Nat := if c = 41 then [32, 41] else [c]
def rr (c : Nat) : List Nat := if c = 40 then [40, 32] else if c = 41 then [32, 41] else [c]
theorem line_big {n : Nat} (h : n ≤ 1000000) : n ≤ sizeLine := Nat.le_trans h (by decide)
end DL
namespace DL
open PySem PySem.Spec PyProof.Rows L2
variable [Tabs] [Me]
theorem n1 : gNin (.int 1) (.tup [.int 1, .int 2, .int 3]) = some (.bl false) := rfl
theorem n2 : gNin (.int 2) (.tup [.int 1, .int 2, .int 3]) = some (.bl false) := rfl
theorem n3 : gNin (.int 3) (.tup [.int 1, .int 2, .int 3]) = some (.bl false) := rfl
theorem e11 : gEq (.int 1) (.int 1) = some (.bl true) := rfl
end DL
namespace DL
open PySem PySem.Spec PyProof.Rows L2
variable [Tabs] [Me]
open TL
theorem six {n i d : Nat} (h : i ≤ n) : HT.sIx n d (some (i : Nat)) = i := by
  rw [HT.sIx_nat]
  omega
end DL
namespace DL
open PySem PySem.Spec PyProof.Rows L2
variable [Tabs] [Me]
open TL
theorem plains_all : ∀ l : List Dt, plains l = l.all plain
  | [] => rfl
  | d :: l => by show (plain d && plains l) = _; rw [plains_all l]; rfl
theorem can_all : ∀ l : List Dt, (∀ d ∈ l, PyData.canLay0 (toPy d) = true) → PyData.canLayAll0 (toPys l) = true
  | [], _ => rfl
  | d :: l, h => by
    show (PyData.canLay0 (toPy d) && PyData.canLayAll0 (toPys l)) = true
    rw [h d (List.mem_cons_self ..), can_all l fun x hx => h x (List.mem_cons_of_mem _ hx)]
    rfl
theorem depth_all {n : Nat} : ∀ l : List Dt, (∀ d ∈ l, (toPy d).depth ≤ n) → PyData.depthAll (toPys l) ≤ n
  | [], _ => Nat.zero_le _
  | d :: l, h => by
    show max (toPy d).depth (PyData.depthAll (toPys l)) ≤ n
    exact Nat.max_le.mpr ⟨h d (List.mem_cons_self ..), depth_all l fun x hx => h x (List.mem_cons_of_mem _ hx)⟩
theorem ok_eq : ∀ (n : Nat) (d : Dt), okD n d = true → plain d = true ∧ PyData.canLay0 (toPy d) = true ∧ (toPy d).depth ≤ n
  | 0, d, h => by cases d <;> cases h
  | n + 1, d, h => by
    have seq : ∀ l : List Dt, (decide (l.length ≤ 1000) && l.all (okD n)) = true → plains l = true ∧ PyData.canLayAll0 (toPys l) = true ∧ PyData.depthAll (toPys l) + 1 ≤ n + 1 := fun l h => by
      rw [Bool.and_eq_true] at h
      have h2 := List.all_eq_true.mp h.2
      refine ⟨?_, can_all l fun d hd => (ok_eq n d (h2 d hd)).2.1, Nat.succ_le_succ (depth_all l fun d hd => (ok_eq n d (h2 d hd)).2.2)⟩
      rw [plains_all]
      exact List.all_eq_true.mpr fun d hd => (ok_eq n d (h2 d hd)).1
    cases d with
    | tup l => unfold okD at h; exact seq l h
    | lst l => unfold okD at h; exact seq l h
    | bag => cases h
    | dic ks l => cases h
    | ins c ks l => cases h
    | err c ks l => cases h
    | old l => cases h
    | str z => unfold okD at h; exact ⟨rfl, h, Nat.zero_le _⟩
    | non => exact ⟨rfl, rfl, Nat.zero_le _⟩
    | bl b => exact ⟨rfl, rfl, Nat.zero_le _⟩
    | int i => exact ⟨rfl, rfl, Nat.zero_le _⟩
theorem eqOk_of {n : Nat} {d : Dt} (h : okD n d = true) (hn : n ≤ 64) : eqOk d = true := by
  obtain ⟨h1, h2, h3⟩ := ok_eq n d h
  unfold eqOk SeqAt.shaped
  rw [h1, h2, decide_eq_true (by omega)]
  rfl
theorem gaddL {a b : List Dt} (h : a.length + b.length ≤ 1000000) : gAdd (.lst a) (.lst b) = some (.lst (a ++ b)) := by
  show (if a.length + b.length ≤ sizeLine then some (Dt.lst (a ++ b)) else none) = _
  rw [if_pos (line_big h)]
end DL
namespace K15
open PySem PySem.Spec PyProof.Rows L2 LamX DL DX
section Laws
variable [Tabs] [Me]
def top (i : Nat) : Stmt := PySem.Challenge.pw_lookedrows_k15_tables_refused.main.body.getD i (.Pass ⟨0, 0, 0, 0⟩)
abbrev s_is_name : Stmt := top 21
abbrev s_are_names : Stmt := top 23
abbrev s_all_columns : Stmt := top 24
abbrev s_is_whole : Stmt := top 25
abbrev s_is_row_ : Stmt := top 30
abbrev s_checked_rows_ : Stmt := top 31
def s_Table_M__init__ : Stmt := match top 32 with
  | .ClassDef (body := b) .. => b.getD 0 (.Pass ⟨0, 0, 0, 0⟩)
  | s => s
def s_Table_Mempty : Stmt := match top 32 with
  | .ClassDef (body := b) .. => b.getD 1 (.Pass ⟨0, 0, 0, 0⟩)
  | s => s
def s_Procedure_M__init__ : Stmt := match top 85 with
  | .ClassDef (body := b) .. => b.getD 0 (.Pass ⟨0, 0, 0, 0⟩)
  | s => s
def s_Rules_M__init__ : Stmt := match top 125 with
  | .ClassDef (body := b) .. => b.getD 0 (.Pass ⟨0, 0, 0, 0⟩)
  | s => s
abbrev s_Lfield : Stmt := top 127
abbrev s_Ldraws : Stmt := top 128
abbrev s_Lpull : Stmt := top 129
abbrev s_Lany : Stmt := top 130
abbrev s_Lmixed : Stmt := top 131
abbrev s_Llike : Stmt := top 132
abbrev s_Ltry : Stmt := top 133
abbrev s_Ltries : Stmt := top 134
abbrev s_Lreserved : Stmt := top 135
abbrev s_Lnew_names : Stmt := top 136
abbrev s_Lnear : Stmt := top 137
abbrev s_Lrows : Stmt := top 138
abbrev s_law : Stmt := top 139
abbrev N_is_name : List Str := ["value", "letter"]
theorem sc_is_name : FnScope N_is_name ["value"] (defScope s_is_name) := ⟨rfl, rfl, rfl, by decide +kernel, rfl, by decide +kernel, by decide +kernel⟩
abbrev N_are_names : List Str := ["value", "most", "name"]
theorem sc_are_names : FnScope N_are_names ["value", "most"] (defScope s_are_names) := ⟨rfl, rfl, rfl, by decide +kernel, rfl, by decide +kernel, by decide +kernel⟩
abbrev N_all_columns : List Str := ["columns"]
theorem sc_all_columns : FnScope N_all_columns ["columns"] (defScope s_all_columns) := ⟨rfl, rfl, rfl, by decide +kernel, rfl, by decide +kernel, by decide +kernel⟩
abbrev N_is_whole : List Str := ["value"]
theorem sc_is_whole : FnScope N_is_whole ["value"] (defScope s_is_whole) := ⟨rfl, rfl, rfl, by decide +kernel, rfl, by decide +kernel, by decide +kernel⟩
abbrev N_is_row_ : List Str := ["value", "many", "cell"]
theorem sc_is_row_ : FnScope N_is_row_ ["value", "many"] (defScope s_is_row_) := ⟨rfl, rfl, rfl, by decide +kernel, rfl, by decide +kernel, by decide +kernel⟩
abbrev N_checked_rows_ : List Str := ["rows", "many", "taken", "keys", "index", "row", "key"]
theorem sc_checked_rows_ : FnScope N_checked_rows_ ["rows", "many", "taken"] (defScope s_checked_rows_) := ⟨rfl, rfl, rfl, by decide +kernel, rfl, by decide +kernel, by decide +kernel⟩
abbrev N_Table_M__init__ : List Str := ["self", "columns", "rows"]
theorem sc_Table_M__init__ : FnScope N_Table_M__init__ ["self", "columns", "rows"] (defScope s_Table_M__init__) := ⟨rfl, rfl, rfl, by decide +kernel, rfl, by decide +kernel, by decide +kernel⟩
abbrev N_Table_Mempty : List Str := ["cls", "columns"]
theorem sc_Table_Mempty : FnScope N_Table_Mempty ["cls", "columns"] (defScope s_Table_Mempty) := ⟨rfl, rfl, rfl, by decide +kernel, rfl, by decide +kernel, by decide +kernel⟩
abbrev N_Procedure_M__init__ : List Str := ["self", "columns", "arguments", "statements"]
theorem sc_Procedure_M__init__ : FnScope N_Procedure_M__init__ ["self", "columns", "arguments", "statements"] (defScope s_Procedure_M__init__) := ⟨rfl, rfl, rfl, by decide +kernel, rfl, by decide +kernel, by decide +kernel⟩
abbrev N_Rules_M__init__ : List Str := ["self", "columns", "rows", "nexts", "witness"]
theorem sc_Rules_M__init__ : FnScope N_Rules_M__init__ ["self", "columns", "rows", "nexts"] (defScope s_Rules_M__init__) := ⟨rfl, rfl, rfl, by decide +kernel, rfl, by decide +kernel, by decide +kernel⟩
abbrev N_Lfield : List Str := ["_law_e"]
theorem sc_Lfield : FnScope N_Lfield ["_law_e"] (defScope s_Lfield) := ⟨rfl, rfl, rfl, by decide +kernel, rfl, by decide +kernel, by decide +kernel⟩
abbrev N_Ldraws : List Str := ["_law_script", "_law_seed", "_law_cell"]
theorem sc_Ldraws : FnScope N_Ldraws ["_law_script"] (defScope s_Ldraws) := ⟨rfl, rfl, rfl, by decide +kernel, rfl, by decide +kernel, by decide +kernel⟩
abbrev N_Lpull : List Str := ["_law_bag", "_law_sides", "_law_seed", "_law_cell", "_law_digit"]
theorem sc_Lpull : FnScope N_Lpull ["_law_bag", "_law_sides"] (defScope s_Lpull) := ⟨rfl, rfl, rfl, by decide +kernel, rfl, by decide +kernel, by decide +kernel⟩
abbrev N_Lany : List Str := ["_law_bag", "_law_rows_z"]
theorem sc_Lany : FnScope N_Lany ["_law_bag", "_law_rows_z"] (defScope s_Lany) := ⟨rfl, rfl, rfl, by decide +kernel, rfl, by decide +kernel, by decide +kernel⟩
abbrev N_Lmixed : List Str := ["_law_bag", "_law_rows_z", "_law_found", "_law_row"]
theorem sc_Lmixed : FnScope N_Lmixed ["_law_bag", "_law_rows_z"] (defScope s_Lmixed) := ⟨rfl, rfl, rfl, by decide +kernel, rfl, by decide +kernel, by decide +kernel⟩
abbrev N_Llike : List Str := ["_law_a", "_law_b", "_law_same", "_law_c", "_law_d"]
theorem sc_Llike : FnScope N_Llike ["_law_a", "_law_b"] (defScope s_Llike) := ⟨rfl, rfl, rfl, by decide +kernel, rfl, by decide +kernel, by decide +kernel⟩
abbrev N_Ltry : List Str := ["_law_ask", "_law_e"]
theorem sc_Ltry : FnScope N_Ltry ["_law_ask"] (defScope s_Ltry) := ⟨rfl, rfl, rfl, by decide +kernel, rfl, by decide +kernel, by decide +kernel⟩
abbrev N_Ltries : List Str := ["_law_asks", "_law_ask"]
theorem sc_Ltries : FnScope N_Ltries ["_law_asks"] (defScope s_Ltries) := ⟨rfl, rfl, rfl, by decide +kernel, rfl, by decide +kernel, by decide +kernel⟩
abbrev N_Lreserved : List Str := []
theorem sc_Lreserved : FnScope N_Lreserved [] (defScope s_Lreserved) := ⟨rfl, rfl, rfl, by decide +kernel, rfl, by decide +kernel, by decide +kernel⟩
abbrev N_Lnew_names : List Str := ["_law_bag", "_law_many", "_law_abc", "_law_stem", "_law_rows_z", "_law_at", "_law_first", "_law_k", "_law_row"]
theorem sc_Lnew_names : FnScope N_Lnew_names ["_law_bag", "_law_many"] (defScope s_Lnew_names) := ⟨rfl, rfl, rfl, by decide +kernel, rfl, by decide +kernel, by decide +kernel⟩
abbrev N_Lnear : List Str := ["_law_bag"]
theorem sc_Lnear : FnScope N_Lnear ["_law_bag"] (defScope s_Lnear) := ⟨rfl, rfl, rfl, by decide +kernel, rfl, by decide +kernel, by decide +kernel⟩
abbrev N_Lrows : List Str := ["_law_bag", "_law_columns", "_law_most", "_law_k", "_law_key", "_law_found", "_law_c"]
theorem sc_Lrows : FnScope N_Lrows ["_law_bag", "_law_columns", "_law_most"] (defScope s_Lrows) := ⟨rfl, rfl, rfl, by decide +kernel, rfl, by decide +kernel, by decide +kernel⟩
abbrev N_law : List Str := ["_law_script", "_law_bag", "_law_turn", "_law_odd", "_law_names", "_law_wrong", "_law_rows_z", "_law_asks", "_law_columns", "_law_good", "_law_zeros", "_law_bad", "_law_at", "_law_late"]
theorem sc_law : FnScope N_law ["_law_script"] (defScope s_law) := ⟨rfl, rfl, rfl, by decide +kernel, rfl, by decide +kernel, by decide +kernel⟩
def c_MOST_LETTERS : Dt := .int 6
def c_MOST_COLUMNS : Dt := .int 3
def c_RESERVED : Dt := .tup [.str "and", .str "found", .str "key", .str "next", .str "not", .str "or", .str "own", .str "set", .str "true", .str "where"]
def t_SIGNS : List (Str × Str) := [("atmost", "<="), ("below", "<"), ("same", "=")]
def s_init : Stmt := match top 2 with
  | .ClassDef (body := b) .. => b.getD 0 (.Pass ⟨0, 0, 0, 0⟩)
  | s => s
abbrev N_init : List Str := ["self"]
theorem sc_init : FnScope N_init ["self"] (defScope s_init) := ⟨rfl, rfl, rfl, by decide +kernel, rfl, by decide +kernel, by decide +kernel⟩
def si_InvalidRow : Stmt := match top 4 with
  | .ClassDef (body := b) .. => b.getD 0 (.Pass ⟨0, 0, 0, 0⟩)
  | s => s
set_option maxHeartbeats 0 in
structure Tx (P : Program) (w : World) (K : PySem.W.Frag) (mg : Str → Option Value) (base : Heap) where
  n_all : mg "all" = none
  n_bool : mg "bool" = none
  n_enumerate : mg "enumerate" = none
  n_int : mg "int" = none
  n_isinstance : mg "isinstance" = none
  n_len : mg "len" = none
  n_list : mg "list" = none
  n_range : mg "range" = none
  n_set : mg "set" = none
  n_sorted : mg "sorted" = none
  n_str : mg "str" = none
  n_tuple : mg "tuple" = none
  n_zip : mg "zip" = none
  g_BOUND : ∃ u, mg "BOUND" = some u ∧ RelV (V.int 1000000000000000000000000000000) u
  g_MOST_LETTERS : ∃ u, mg "MOST_LETTERS" = some u ∧ RelV (V.int 6) u
  g_MOST_COLUMNS : ∃ u, mg "MOST_COLUMNS" = some u ∧ RelV (V.int 3) u
  a_RESERVED : Addr
  g_RESERVED : mg "RESERVED" = some (.ref a_RESERVED)
  q_RESERVED : ∀ G, SqT K G a_RESERVED [V.str "and", V.str "found", V.str "key", V.str "next", V.str "not", V.str "or", V.str "own", V.str "set", V.str "true", V.str "where"]
  g_DEEPEST : ∃ u, mg "DEEPEST" = some u ∧ RelV (V.int 6) u
  g_MOST_OWN : ∃ u, mg "MOST_OWN" = some u ∧ RelV (V.int 12) u
  g_MOST_IN_ALL : ∃ u, mg "MOST_IN_ALL" = some u ∧ RelV (V.int 24) u
  g_DEEPEST_STATEMENT : ∃ u, mg "DEEPEST_STATEMENT" = some u ∧ RelV (V.int 3) u
  g_MOST_RETURNED : ∃ u, mg "MOST_RETURNED" = some u ∧ RelV (V.int 4) u
  a_ENDS : Addr
  g_ENDS : mg "ENDS" = some (.ref a_ENDS)
  q_ENDS : ∀ G, SqT K G a_ENDS [V.str "first", V.str "last"]
  a_SIDES : Addr
  g_SIDES : mg "SIDES" = some (.ref a_SIDES)
  q_SIDES : ∀ G, SqT K G a_SIDES [V.str "next", V.str "prior"]
  a_READ : Addr
  g_READ : mg "READ" = some (.ref a_READ)
  q_READ : ∀ G, SqT K G a_READ [V.str "number", V.str "name", V.str "field"]
  a_READ_BY_ROW : Addr
  g_READ_BY_ROW : mg "READ_BY_ROW" = some (.ref a_READ_BY_ROW)
  q_READ_BY_ROW : ∀ G, SqT K G a_READ_BY_ROW [V.str "number", V.str "name", V.str "field", V.str "own"]
  a_FAILING : Addr
  g_FAILING : mg "FAILING" = some (.ref a_FAILING)
  q_FAILING : ∀ G, SqT K G a_FAILING [V.str "fail", V.str "insert", V.str "move", V.str "delete", V.str "set", V.str "step"]
  a_CHANGING : Addr
  g_CHANGING : mg "CHANGING" = some (.ref a_CHANGING)
  q_CHANGING : ∀ G, SqT K G a_CHANGING [V.str "insert", V.str "delete", V.str "set", V.str "clear", V.str "change", V.str "move"]
  g_MOST_ARGUMENTS : ∃ u, mg "MOST_ARGUMENTS" = some u ∧ RelV (V.int 3) u
  g_MOST_RULES : ∃ u, mg "MOST_RULES" = some u ∧ RelV (V.int 4) u
  a_ROW_FORMS : Addr
  g_ROW_FORMS : mg "ROW_FORMS" = some (.ref a_ROW_FORMS)
  q_ROW_FORMS : ∀ G, SqT K G a_ROW_FORMS [V.str "number", V.str "own"]
  a_NEXT_FORMS : Addr
  g_NEXT_FORMS : mg "NEXT_FORMS" = some (.ref a_NEXT_FORMS)
  q_NEXT_FORMS : ∀ G, SqT K G a_NEXT_FORMS [V.str "number", V.str "own", V.str "next"]
  T1 : Addr
  T2 : Addr
  T3 : Addr
  m_T1 : mg "TableError" = some (.ref T1)
  m_T2 : mg "Missing" = some (.ref T2)
  m_T3 : mg "NothingLeft" = some (.ref T3)
  y_T1 : PySem.W.nsIn K mainGlobals "TableError" = some (some (.ref T1))
  y_T2 : PySem.W.nsIn K mainGlobals "Missing" = some (some (.ref T2))
  y_T3 : PySem.W.nsIn K mainGlobals "NothingLeft" = some (some (.ref T3))
  f_init : Addr
  fd_init : FuncData
  F_init : Fun K "__init__" "TableError.__init__" s_init f_init fd_init
  b_init : Binds K fd_init ["self"] []
  E_InvalidColumns : DX.ErrK K mg "InvalidColumns" f_init
  E_InvalidRow : DX.ErrF P w K mg "InvalidRow" "index" f_init
  a_SIGNS : Addr
  g_SIGNS : mg "SIGNS" = some (.ref a_SIGNS)
  k_SIGNS : KTbl K w a_SIGNS t_SIGNS
  cc_Table : Addr
  m_Table : mg "Table" = some (.ref cc_Table)
  C_Table : DL.InsC K "Table" cc_Table
  f_Table_M__init__ : Addr
  M_Table : Mk K cc_Table f_Table_M__init__
  nf_Table__columns : DI.NoF K ["Table"] "_columns"
  nf_Table__rows : DI.NoF K ["Table"] "_rows"
  kl_Table : PySem.W.kitOne K (.type "list") (.ref cc_Table) = some false
  ev_Table : Addr
  s0_Table : ∀ G, SqT K G ev_Table []
  cc_Procedure : Addr
  m_Procedure : mg "Procedure" = some (.ref cc_Procedure)
  C_Procedure : DL.InsC K "Procedure" cc_Procedure
  f_Procedure_M__init__ : Addr
  M_Procedure : Mk K cc_Procedure f_Procedure_M__init__
  nf_Procedure__columns : DI.NoF K ["Procedure"] "_columns"
  kl_Procedure : PySem.W.kitOne K (.type "list") (.ref cc_Procedure) = some false
  cc_Rules : Addr
  m_Rules : mg "Rules" = some (.ref cc_Rules)
  C_Rules : DL.InsC K "Rules" cc_Rules
  f_Rules_M__init__ : Addr
  M_Rules : Mk K cc_Rules f_Rules_M__init__
  nf_Rules__columns : DI.NoF K ["Rules"] "_columns"
  kl_Rules : PySem.W.kitOne K (.type "list") (.ref cc_Rules) = some false
  ev_Rules : Addr
  s0_Rules : ∀ G, SqT K G ev_Rules []
  f_is_name : Addr
  fd_is_name : FuncData
  F_is_name : Fun K "is_name" "is_name" s_is_name f_is_name fd_is_name
  m_is_name : mg "is_name" = some (.ref f_is_name)
  b_is_name : Binds K fd_is_name ["value"] []
  f_are_names : Addr
  fd_are_names : FuncData
  F_are_names : Fun K "are_names" "are_names" s_are_names f_are_names fd_are_names
  m_are_names : mg "are_names" = some (.ref f_are_names)
  b_are_names : Binds K fd_are_names ["value", "most"] []
  f_all_columns : Addr
  fd_all_columns : FuncData
  F_all_columns : Fun K "all_columns" "all_columns" s_all_columns f_all_columns fd_all_columns
  m_all_columns : mg "all_columns" = some (.ref f_all_columns)
  b_all_columns : Binds K fd_all_columns ["columns"] []
  f_is_whole : Addr
  fd_is_whole : FuncData
  F_is_whole : Fun K "is_whole" "is_whole" s_is_whole f_is_whole fd_is_whole
  m_is_whole : mg "is_whole" = some (.ref f_is_whole)
  b_is_whole : Binds K fd_is_whole ["value"] []
  f_is_row_ : Addr
  fd_is_row_ : FuncData
  F_is_row_ : Fun K "_is_row" "_is_row" s_is_row_ f_is_row_ fd_is_row_
  m_is_row_ : mg "_is_row" = some (.ref f_is_row_)
  b_is_row_ : Binds K fd_is_row_ ["value", "many"] []
  f_checked_rows_ : Addr
  fd_checked_rows_ : FuncData
  F_checked_rows_ : Fun K "_checked_rows" "_checked_rows" s_checked_rows_ f_checked_rows_ fd_checked_rows_
  m_checked_rows_ : mg "_checked_rows" = some (.ref f_checked_rows_)
  b_checked_rows_ : Binds K fd_checked_rows_ ["rows", "many", "taken"] []
  fd_Table_M__init__ : FuncData
  dv_Table_M__init__ : List V
  F_Table_M__init__ : FunD K "__init__" "Table.__init__" (defArgs s_Table_M__init__) (defBody s_Table_M__init__) (defScope s_Table_M__init__) dv_Table_M__init__ [] f_Table_M__init__ fd_Table_M__init__
  b_Table_M__init__ : Binds K fd_Table_M__init__ ["self", "columns", "rows"] []
  bd_Table_M__init__ : Binds K fd_Table_M__init__ ["self", "columns", "rows"] [.ref ev_Table]
  f_Table_Mempty : Addr
  fd_Table_Mempty : FuncData
  F_Table_Mempty : Fun K "empty" "Table.empty" s_Table_Mempty f_Table_Mempty fd_Table_Mempty
  mc_Table : Value
  cr_Table : ClX.CRead K cc_Table mc_Table
  pm_Table_Mempty : Addr
  cm_Table_Mempty : ClX.CMet K cc_Table mc_Table "empty" pm_Table_Mempty f_Table_Mempty
  fd_Procedure_M__init__ : FuncData
  F_Procedure_M__init__ : Fun K "__init__" "Procedure.__init__" s_Procedure_M__init__ f_Procedure_M__init__ fd_Procedure_M__init__
  b_Procedure_M__init__ : Binds K fd_Procedure_M__init__ ["self", "columns", "arguments", "statements"] []
  fd_Rules_M__init__ : FuncData
  kws_Rules_M__init__ : List (Str × V)
  F_Rules_M__init__ : FunD K "__init__" "Rules.__init__" (defArgs s_Rules_M__init__) (defBody s_Rules_M__init__) (defScope s_Rules_M__init__) [] kws_Rules_M__init__ f_Rules_M__init__ fd_Rules_M__init__
  kr_Rules : ∃ g, KBn K fd_Rules_M__init__ ["self", "columns", "rows", "nexts"] 2 ["rows"] g (fun vs zs => vs ++ zs ++ [.ref ev_Rules])
  f_Lfield : Addr
  fd_Lfield : FuncData
  F_Lfield : Fun K "_law_field" "_law_field" s_Lfield f_Lfield fd_Lfield
  m_Lfield : mg "_law_field" = some (.ref f_Lfield)
  b_Lfield : Binds K fd_Lfield ["_law_e"] []
  f_Ldraws : Addr
  fd_Ldraws : FuncData
  F_Ldraws : Fun K "_law_draws" "_law_draws" s_Ldraws f_Ldraws fd_Ldraws
  m_Ldraws : mg "_law_draws" = some (.ref f_Ldraws)
  b_Ldraws : Binds K fd_Ldraws ["_law_script"] []
  f_Lpull : Addr
  fd_Lpull : FuncData
  F_Lpull : Fun K "_law_pull" "_law_pull" s_Lpull f_Lpull fd_Lpull
  m_Lpull : mg "_law_pull" = some (.ref f_Lpull)
  b_Lpull : Binds K fd_Lpull ["_law_bag", "_law_sides"] []
  f_Lany : Addr
  fd_Lany : FuncData
  F_Lany : Fun K "_law_any" "_law_any" s_Lany f_Lany fd_Lany
  m_Lany : mg "_law_any" = some (.ref f_Lany)
  b_Lany : Binds K fd_Lany ["_law_bag", "_law_rows_z"] []
  f_Lmixed : Addr
  fd_Lmixed : FuncData
  F_Lmixed : Fun K "_law_mixed" "_law_mixed" s_Lmixed f_Lmixed fd_Lmixed
  m_Lmixed : mg "_law_mixed" = some (.ref f_Lmixed)
  b_Lmixed : Binds K fd_Lmixed ["_law_bag", "_law_rows_z"] []
  f_Llike : Addr
  fd_Llike : FuncData
  F_Llike : Fun K "_law_like" "_law_like" s_Llike f_Llike fd_Llike
  m_Llike : mg "_law_like" = some (.ref f_Llike)
  b_Llike : Binds K fd_Llike ["_law_a", "_law_b"] []
  f_Ltry : Addr
  fd_Ltry : FuncData
  F_Ltry : Fun K "_law_try" "_law_try" s_Ltry f_Ltry fd_Ltry
  m_Ltry : mg "_law_try" = some (.ref f_Ltry)
  b_Ltry : Binds K fd_Ltry ["_law_ask"] []
  f_Ltries : Addr
  fd_Ltries : FuncData
  F_Ltries : Fun K "_law_tries" "_law_tries" s_Ltries f_Ltries fd_Ltries
  m_Ltries : mg "_law_tries" = some (.ref f_Ltries)
  b_Ltries : Binds K fd_Ltries ["_law_asks"] []
  f_Lreserved : Addr
  fd_Lreserved : FuncData
  F_Lreserved : Fun K "_law_reserved" "_law_reserved" s_Lreserved f_Lreserved fd_Lreserved
  m_Lreserved : mg "_law_reserved" = some (.ref f_Lreserved)
  b_Lreserved : Binds K fd_Lreserved [] []
  f_Lnew_names : Addr
  fd_Lnew_names : FuncData
  F_Lnew_names : Fun K "_law_new_names" "_law_new_names" s_Lnew_names f_Lnew_names fd_Lnew_names
  m_Lnew_names : mg "_law_new_names" = some (.ref f_Lnew_names)
  b_Lnew_names : Binds K fd_Lnew_names ["_law_bag", "_law_many"] []
  f_Lnear : Addr
  fd_Lnear : FuncData
  F_Lnear : Fun K "_law_near" "_law_near" s_Lnear f_Lnear fd_Lnear
  m_Lnear : mg "_law_near" = some (.ref f_Lnear)
  b_Lnear : Binds K fd_Lnear ["_law_bag"] []
  f_Lrows : Addr
  fd_Lrows : FuncData
  F_Lrows : Fun K "_law_rows" "_law_rows" s_Lrows f_Lrows fd_Lrows
  m_Lrows : mg "_law_rows" = some (.ref f_Lrows)
  b_Lrows : Binds K fd_Lrows ["_law_bag", "_law_columns", "_law_most"] []
  cl_law : Addr
  Pt_law : Addr
  i_law : (Pt_law, ((("law" : Str) ++ ".<locals>.") ++ "<lambda>")) ∈ Tabs.ts
  B_law : LamX.TabB base mg cl_law Pt_law
  f_law : Addr
  fd_law : FuncData
  C_law : DX.FunC K "law" "law" s_law f_law fd_law cl_law
  F_law : Fun K "law" "law" s_law f_law fd_law
  m_law : mg "law" = some (.ref f_law)
  b_law : Binds K fd_law ["_law_script"] []
theorem Tx.e_MOST_LETTERS {P : Program} {w : World} {K : PySem.W.Frag} {mg : Str → Option Value} (T : Tx P w K mg base) {X : Cx} {p : Pos} (hK : X.K = K) (hm : X.mg = mg) (hg : Gl X "MOST_LETTERS") : DE X (.Name "MOST_LETTERS" p) (mC c_MOST_LETTERS) := by
  subst hK hm
  obtain ⟨u, h1, h2⟩ := T.g_MOST_LETTERS
  exact de_cst (pe_glob hg h1 h2) fun β G => is_int.mpr rfl
theorem Tx.e_MOST_COLUMNS {P : Program} {w : World} {K : PySem.W.Frag} {mg : Str → Option Value} (T : Tx P w K mg base) {X : Cx} {p : Pos} (hK : X.K = K) (hm : X.mg = mg) (hg : Gl X "MOST_COLUMNS") : DE X (.Name "MOST_COLUMNS" p) (mC c_MOST_COLUMNS) := by
  subst hK hm
  obtain ⟨u, h1, h2⟩ := T.g_MOST_COLUMNS
  exact de_cst (pe_glob hg h1 h2) fun β G => is_int.mpr rfl
theorem Tx.e_RESERVED {P : Program} {w : World} {K : PySem.W.Frag} {mg : Str → Option Value} (T : Tx P w K mg base) {X : Cx} {p : Pos} (hK : X.K = K) (hm : X.mg = mg) (hg : Gl X "RESERVED") : DE X (.Name "RESERVED" p) (mC c_RESERVED) := by
  subst hK hm
  exact de_cst (pe_glob (v := .ref T.a_RESERVED) hg T.g_RESERVED rfl) fun β G => is_tup.mpr ⟨T.a_RESERVED, _, rfl, T.q_RESERVED G, (isl_cons.mpr ⟨_, _, rfl, is_str.mpr rfl, (isl_cons.mpr ⟨_, _, rfl, is_str.mpr rfl, (isl_cons.mpr ⟨_, _, rfl, is_str.mpr rfl, (isl_cons.mpr ⟨_, _, rfl, is_str.mpr rfl, (isl_cons.mpr ⟨_, _, rfl, is_str.mpr rfl, (isl_cons.mpr ⟨_, _, rfl, is_str.mpr rfl, (isl_cons.mpr ⟨_, _, rfl, is_str.mpr rfl, (isl_cons.mpr ⟨_, _, rfl, is_str.mpr rfl, (isl_cons.mpr ⟨_, _, rfl, is_str.mpr rfl, (isl_cons.mpr ⟨_, _, rfl, is_str.mpr rfl, (isl_nil.mpr rfl)⟩)⟩)⟩)⟩)⟩)⟩)⟩)⟩)⟩)⟩)⟩
section
variable {P : Program} {w : World} {K : PySem.W.Frag} {mg : Str → Option Value} {base : Heap}
theorem try_ok (T : Tx P w K mg base) {X : Cx} (hp : X.prog = P) (hw : X.w = w) (hK : X.K = K) (hm : X.mg = mg) (hb : X.base = base) {k : Nat} (hr : Room (k + 2) X.A) (cdv : Value) {q : Str} : LamX.GivesTo X N_Ltry "_law_try" (defScope s_Ltry) T.f_Ltry cdv (defBody s_Ltry) "_law_ask" q (DX.TTtry X.K [("InvalidRow", "index")] T.T1 T.T2 T.T3 "") := by
  subst hp hw hK hm hb
  exact DX.try_gives (p19 := ⟨0, 0, 0, 0⟩) (p20 := ⟨0, 0, 0, 0⟩) rfl T.m_T1 (by decide) rfl T.m_T2 (by decide) rfl T.m_T3 (by decide) rfl T.m_Lfield (by decide) T.F_Lfield.kp (DX.fs_field (k := k) T.F_Lfield sc_Lfield (show DX.FieldB _ (defBody s_Lfield) [("InvalidRow", "index")] from (DX.FieldB.cons (by decide) DX.FieldB.nil))) T.b_Lfield sc_Ltry.nd rfl rfl (by decide) (by decide) (fun s b => DX.room_mark hr) (fun f => rfl) rfl
theorem try_okB (T : Tx P w K mg base) {X : Cx} (hp : X.prog = P) (hw : X.w = w) (hK : X.K = K) (hm : X.mg = mg) {k : Nat} (hr : Room (k + 2) X.A) (cdv : Value) {q : Str} : LamX.GivesTo X N_Ltry "_law_try" (defScope s_Ltry) T.f_Ltry cdv (defBody s_Ltry) "_law_ask" q (DX.TTtry K [("InvalidRow", "index")] T.T1 T.T2 T.T3 "") := by
  subst hp hw hK hm
  exact DX.try_gives (p19 := ⟨0, 0, 0, 0⟩) (p20 := ⟨0, 0, 0, 0⟩) rfl T.m_T1 (by decide) rfl T.m_T2 (by decide) rfl T.m_T3 (by decide) rfl T.m_Lfield (by decide) T.F_Lfield.kp (DX.fs_field (k := k) T.F_Lfield sc_Lfield (show DX.FieldB _ (defBody s_Lfield) [("InvalidRow", "index")] from (DX.FieldB.cons (by decide) DX.FieldB.nil))) T.b_Lfield sc_Ltry.nd rfl rfl (by decide) (by decide) (fun s b => DX.room_mark hr) (fun f => rfl) rfl
omit [DL.Me] in
def F_is_name : FD := fnD N_is_name.length (kSeq (kIf (mOrB (mNotB (mB (mIsi isStr (mVar 0)))) (mB (m2 gIn (mVar 0) (mC c_RESERVED)))) (kRet (mC (.bl false))) kSkip)
    (kRet (mAndV (mChain oLe oLe (mC (.int 1)) (mCall gLen (mCons (mVar 0) mNil)) (mC c_MOST_LETTERS)) (mCall gAll (mCons (mComp [1] (wStr (mVar 0)) (hName 1) mYes (mChain oLe oLe (mC (.str "a")) (mVar 1) (mC (.str "z")))) mNil)))))
theorem ok_is_name (T : Tx P w K mg base) : FnOk P w K mg base CX0 1 T.f_is_name T.fd_is_name ["value"] (spD K 1 F_is_name) :=
  fn_ok T.F_is_name sc_is_name rfl fun cdv A outer s H E hr => (
    (dss_cons (ds_if (DW.dt (dw_or (dt_not (dt_val (de_isi kit_str (by rfl) T.n_isinstance (by decide +kernel) (de_var 0 (pv 0)) (by rfl) T.n_str (by decide +kernel)))) (dw_or1 (dt_cmp (op_in_str.or op_in_seq) r2_in (de_var 0 (pv 0)) (T.e_RESERVED rfl rfl (by rfl)) (by rfl))))) (dss_one (ds_ret de_bl)) dss_nil) (dss_one (ds_ret (de_and (de_chain (op_le.or op_le_str) r2_le (op_le.or op_le_str) r2_le de_int (de_callB call_len ok_len (by rfl) T.n_len (by decide +kernel) (da_cons (de_var 0 (pv 0)) da_nil)) (T.e_MOST_LETTERS rfl rfl (by rfl))) (de_one (de_callB (cr_all rfl) ok_all (by rfl) T.n_all (by decide +kernel) (da_cons (de_comp (own := [("letter", 1)]) rfl sc_is_name.nd (di_str (de_var 0 (pv 0))) (blkOk_by (own := [("letter", 1)]) (N := N_is_name) (sc := defScope s_is_name) (by decide +kernel)) (fun _ _ _ _ _ => (dg_name (i := 1) sc_is_name.nd rfl (by first | exact .inl rfl | exact .inr rfl))) (fun _ _ _ _ _ => dts_nil) (fun _ _ _ _ _ => (de_chain (op_le.or op_le_str) r2_le (op_le.or op_le_str) r2_le de_str (de_var 1 (pv 1)) de_str)) (by decide)) da_nil))))))))
omit [DL.Me] in
def F_are_names : FD := fnD N_are_names.length (kSeq (kIf (mOrB (mNotB (mB (mIsi (fun d => isLst d || isTup d) (mVar 0)))) (mB (m2 oGt (mCall gLen (mCons (mVar 0) mNil)) (mVar 1)))) (kRet (mC (.bl false))) kSkip)
    (kRet (mAndV (mCall gAll (mCons (mComp [2] (DH.wSeq (mVar 0)) (hName 2) mYes (mApp F_is_name (mCons (mVar 2) mNil))) mNil)) (m2 gEq (DJ.mLenSetR (mVar 0)) (mCall gLen (mCons (mVar 0) mNil))))))
theorem ok_are_names (T : Tx P w K mg base) : FnOk P w K mg base CX0 2 T.f_are_names T.fd_are_names ["value", "most"] (spD K 2 F_are_names) :=
  fn_ok T.F_are_names sc_are_names rfl fun cdv A outer s H E hr => (
    (dss_cons (ds_if (DW.dt (dw_or (dt_not (dt_val (de_isi2 kit_lst kit_tup (by rfl) T.n_isinstance (by decide +kernel) (de_var 0 (pv 0)) (by rfl) T.n_list (by decide +kernel) (by rfl) T.n_tuple (by decide +kernel)))) (dw_or1 (dt_cmp (op_gt.or op_gt_str) r2_gt (de_callB call_len ok_len (by rfl) T.n_len (by decide +kernel) (da_cons (de_var 0 (pv 0)) da_nil)) (de_var 1 (pv 1)) (nomark _))))) (dss_one (ds_ret de_bl)) dss_nil) (dss_one (ds_ret (de_and (de_callB (cr_all rfl) ok_all (by rfl) T.n_all (by decide +kernel) (da_cons (de_comp (own := [("name", 2)]) rfl sc_are_names.nd (DH.di_seq (de_var 0 (pv 0))) (blkOk_by (own := [("name", 2)]) (N := N_are_names) (sc := defScope s_are_names) (by decide +kernel)) (fun _ _ _ _ _ => (dg_name (i := 2) sc_are_names.nd rfl (by first | exact .inl rfl | exact .inr rfl))) (fun _ _ _ _ _ => dts_nil) (fun _ _ _ _ _ => (de_call (ok_is_name T) (hr.mono (by first | decide | omega)) (by rfl) T.m_is_name T.F_is_name.kp T.b_is_name (da_cons (de_var 2 (pv 2)) da_nil) (len_cons len_nil))) (by decide)) da_nil)) (de_one (de_cmp (op_eqD hr.units) r2_eq (DJ.de_lenSetR rfl (by rfl) T.n_len (by rfl) T.n_set (de_var 0 (pv 0))) (de_callB call_len ok_len (by rfl) T.n_len (by decide +kernel) (da_cons (de_var 0 (pv 0)) da_nil)) (nomark _))))))))
omit [DL.Me] in
def F_all_columns : FD := fnD N_all_columns.length (kSeq (kIf (mNotB (mB (mApp F_are_names (mCons (mVar 0) (mCons (mC c_MOST_COLUMNS) mNil))))) (fun _ => none) kSkip)
    (kRet (mTup (mCons (mC (.str "key")) (mStar (mVar 0) mNil)))))
omit [DL.Me] in
def F_is_whole : FD := fnD N_is_whole.length (kRet (mAndV (mIsi isInt (mVar 0)) (mNotV (mIsi isBl (mVar 0)))))
theorem ok_is_whole (T : Tx P w K mg base) : FnOk P w K mg base CX0 1 T.f_is_whole T.fd_is_whole ["value"] (spD K 1 F_is_whole) :=
  fn_ok T.F_is_whole sc_is_whole rfl fun cdv A outer s H E hr => (
    (dss_one (ds_ret (de_and (de_isi kit_int (by rfl) T.n_isinstance (by decide +kernel) (de_var 0 (pv 0)) (by rfl) T.n_int (by decide +kernel)) (de_one (de_not (de_isi kit_bl (by rfl) T.n_isinstance (by decide +kernel) (de_var 0 (pv 0)) (by rfl) T.n_bool (by decide +kernel))))))))
omit [DL.Me] in
def F_is_row_ : FD := fnD N_is_row_.length (kRet (mAndV (mIsi isTup (mVar 0)) (mAndV (m2 gEq (mCall gLen (mCons (mVar 0) mNil)) (mVar 1)) (mCall gAll (mCons (mComp [2] (wTup (mVar 0)) (hName 2) mYes (mApp F_is_whole (mCons (mVar 2) mNil))) mNil)))))
theorem ok_is_row_ (T : Tx P w K mg base) : FnOk P w K mg base CX0 2 T.f_is_row_ T.fd_is_row_ ["value", "many"] (spD K 2 F_is_row_) :=
  fn_ok T.F_is_row_ sc_is_row_ rfl fun cdv A outer s H E hr => (
    (dss_one (ds_ret (de_and (de_isi kit_tup (by rfl) T.n_isinstance (by decide +kernel) (de_var 0 (pv 0)) (by rfl) T.n_tuple (by decide +kernel)) (de_and (de_cmp (op_eqD hr.units) r2_eq (de_callB call_len ok_len (by rfl) T.n_len (by decide +kernel) (da_cons (de_var 0 (pv 0)) da_nil)) (de_var 1 (pv 1)) (nomark _)) (de_one (de_callB (cr_all rfl) ok_all (by rfl) T.n_all (by decide +kernel) (da_cons (de_comp (own := [("cell", 2)]) rfl sc_is_row_.nd (di_tup (de_var 0 (pv 0))) (blkOk_by (own := [("cell", 2)]) (N := N_is_row_) (sc := defScope s_is_row_) (by decide +kernel)) (fun _ _ _ _ _ => (dg_name (i := 2) sc_is_row_.nd rfl (by first | exact .inl rfl | exact .inr rfl))) (fun _ _ _ _ _ => dts_nil) (fun _ _ _ _ _ => (de_call (ok_is_whole T) (hr.mono (by first | decide | omega)) (by rfl) T.m_is_whole T.F_is_whole.kp T.b_is_whole (da_cons (de_var 2 (pv 2)) da_nil) (len_cons len_nil))) (by decide)) da_nil))))))))
omit [DL.Me] in
def F_checked_rows_ : FD := fnD N_checked_rows_.length (kSeq (kIf (mNotB (mB (mIsi (fun d => isLst d || isTup d) (mVar 0)))) (fun _ => none) kSkip)
    (kSeq (kOwnDC 3 [6] (wLst (mVar 2)) (hName 6) mYes (mVar 6) (mC (.bl true)))
    (kSeq (kFor (DH.wEnumS (mCons (mVar 0) mNil)) (hTup 2 (hCons (hName 4) (hCons (hName 5) hNil))) (kSeq (kIf (mOrB (mNotB (mB (mApp F_is_row_ (mCons (mVar 5) (mCons (mVar 1) mNil))))) (mB (mInO 3 (m2 gIx (mVar 5) (mC (.int 0)))))) (fun _ => none) kSkip)
    (kPutO 3 (m2 gIx (mVar 5) (mC (.int 0))) (mC (.bl true)))))
    (kRet (mCall gListOf (mCons (mVar 0) mNil))))))
omit [DL.Me] in
def F_Lpull : FD := fnD N_Lpull.length (kSeq (kAsg (m2 gAdd (mBagIx (mVar 0) (mC (.int 4))) (mC (.int 1))) (hBag (mVar 0) (mC (.int 4))))
    (kSeq (kIf (mAndB (mB (m2 gEq (mBagIx (mVar 0) (mC (.int 2))) (mC (.int 0)))) (mB (m2 oLt (mBagIx (mVar 0) (mC (.int 1))) (mCall gLen (mCons (mBagIx (mVar 0) (mC (.int 0))) mNil))))) (kSeq (kAsg (mTup (mCons (m2 gIx (mBagIx (mVar 0) (mC (.int 0))) (mBagIx (mVar 0) (mC (.int 1)))) (mCons (m2 gAdd (mBagIx (mVar 0) (mC (.int 1))) (mC (.int 1))) mNil))) (hTup 2 (hCons (hName 3) (hCons (hBag (mVar 0) (mC (.int 1))) hNil))))
    (kSeq (kIf (mB (m2 oGe (mVar 3) (m2 gPow (mC (.int 10)) (mC (.int 18))))) (kAsg (mVar 3) (hBag (mVar 0) (mC (.int 2)))) kSkip)
    (kAsg (m2 gMod (mCall gInt1 (mCons (m2 gAdd (m2 gAdd (m2 gMul (mBagIx (mVar 0) (mC (.int 3))) (mC (.int 38377))) (m2 gMul (m2 gMod (mCall gInt1 (mCons (mVar 3) mNil)) (mC (.int 2147483489))) (mC (.int 41143)))) (mC (.int 61))) mNil)) (mC (.int 2147483549))) (hBag (mVar 0) (mC (.int 3)))))) kSkip)
    (kSeq (kIf (mB (m2 oGt (mBagIx (mVar 0) (mC (.int 2))) (mC (.int 0)))) (kSeq (kAsg (mTup (mCons (m2 gMod (mCall gInt1 (mCons (mBagIx (mVar 0) (mC (.int 2))) mNil)) (mVar 1)) (mCons (m2 gDiv (mBagIx (mVar 0) (mC (.int 2))) (mVar 1)) mNil))) (hTup 2 (hCons (hName 4) (hCons (hBag (mVar 0) (mC (.int 2))) hNil))))
    (kRet (mVar 4))) kSkip)
    (kSeq (kAsg (mBagIx (mVar 0) (mC (.int 3))) (hName 2))
    (kSeq (kAsg (m2 gMod (mCall gInt1 (mCons (m2 gAdd (m2 gAdd (m2 gAdd (m2 gPow (mVar 2) (mC (.int 3))) (m2 gMul (mVar 2) (mC (.int 37813)))) (m2 gMul (mBagIx (mVar 0) (mC (.int 4))) (mC (.int 1299689)))) (mC (.int 65437))) mNil)) (mC (.int 2147483549))) (hBag (mVar 0) (mC (.int 3))))
    (kRet (m2 gMod (mCall gInt1 (mCons (m2 gAdd (m2 gDiv (mBagIx (mVar 0) (mC (.int 3))) (mC (.int 89))) (m2 gMul (m2 gMod (mCall gInt1 (mCons (mBagIx (mVar 0) (mC (.int 3))) mNil)) (mC (.int 7919))) (mC (.int 71)))) mNil)) (mVar 1))))))))
theorem ok_Lpull (T : Tx P w K mg base) : FnOk P w K mg base CX0 1 T.f_Lpull T.fd_Lpull ["_law_bag", "_law_sides"] (spD K 2 F_Lpull) :=
  fn_ok T.F_Lpull sc_Lpull rfl fun cdv A outer s H E hr => (
    (dss_cons (ds_asg (de_add (de_bagIx (de_var 0 (pv 0)) de_int) de_int) (dg_bag (de_var 0 (pv 0)) de_int)) (dss_cons (ds_if (DW.dt (dw_and (dt_cmp (op_eqD hr.units) r2_eq (de_bagIx (de_var 0 (pv 0)) de_int) de_int (nomark _)) (dw_and1 (dt_cmp (op_lt.or op_lt_str) r2_lt (de_bagIx (de_var 0 (pv 0)) de_int) (de_callB call_len ok_len (by rfl) T.n_len (by decide +kernel) (da_cons (de_bagIx (de_var 0 (pv 0)) de_int) da_nil)) (nomark _))))) (dss_cons (ds_asg (de_tup (da_cons (de_ix (de_bagIx (de_var 0 (pv 0)) de_int) (de_bagIx (de_var 0 (pv 0)) de_int)) (da_cons (de_add (de_bagIx (de_var 0 (pv 0)) de_int) de_int) da_nil))) (dg_tup rfl (dgs_cons (dg_name (i := 3) sc_Lpull.nd rfl (by first | exact .inl rfl | exact .inr rfl)) (dgs_cons (dg_bag (de_var 0 (pv 0)) de_int) dgs_nil)))) (dss_cons (ds_if (dt_cmp (op_ge.or op_ge_str) r2_ge (de_var 3 (pv 3)) (de_pow de_int de_int) (nomark _)) (dss_one (ds_asg (de_var 3 (pv 3)) (dg_bag (de_var 0 (pv 0)) de_int))) dss_nil) (dss_one (ds_asg (de_mod (de_callT call_int1 ok_int1 (by rfl) T.n_int (by decide +kernel) (da_cons (de_add (de_add (de_mul (de_bagIx (de_var 0 (pv 0)) de_int) de_int) (de_mul (de_mod (de_callT call_int1 ok_int1 (by rfl) T.n_int (by decide +kernel) (da_cons (de_var 3 (pv 3)) da_nil)) de_int) de_int)) de_int) da_nil)) de_int) (dg_bag (de_var 0 (pv 0)) de_int))))) dss_nil) (dss_cons (ds_if (dt_cmp (op_gt.or op_gt_str) r2_gt (de_bagIx (de_var 0 (pv 0)) de_int) de_int (nomark _)) (dss_cons (ds_asg (de_tup (da_cons (de_mod (de_callT call_int1 ok_int1 (by rfl) T.n_int (by decide +kernel) (da_cons (de_bagIx (de_var 0 (pv 0)) de_int) da_nil)) (de_var 1 (pv 1))) (da_cons (de_fdiv (de_bagIx (de_var 0 (pv 0)) de_int) (de_var 1 (pv 1))) da_nil))) (dg_tup rfl (dgs_cons (dg_name (i := 4) sc_Lpull.nd rfl (by first | exact .inl rfl | exact .inr rfl)) (dgs_cons (dg_bag (de_var 0 (pv 0)) de_int) dgs_nil)))) (dss_one (ds_ret (de_var 4 (pv 4))))) dss_nil) (dss_cons (ds_set (i := 2) sc_Lpull.nd rfl (by first | exact .inl rfl | exact .inr rfl) (de_bagIx (de_var 0 (pv 0)) de_int)) (dss_cons (ds_asg (de_mod (de_callT call_int1 ok_int1 (by rfl) T.n_int (by decide +kernel) (da_cons (de_add (de_add (de_add (de_pow (de_var 2 (pv 2)) de_int) (de_mul (de_var 2 (pv 2)) de_int)) (de_mul (de_bagIx (de_var 0 (pv 0)) de_int) de_int)) de_int) da_nil)) de_int) (dg_bag (de_var 0 (pv 0)) de_int)) (dss_one (ds_ret (de_mod (de_callT call_int1 ok_int1 (by rfl) T.n_int (by decide +kernel) (da_cons (de_add (de_fdiv (de_bagIx (de_var 0 (pv 0)) de_int) de_int) (de_mul (de_mod (de_callT call_int1 ok_int1 (by rfl) T.n_int (by decide +kernel) (da_cons (de_bagIx (de_var 0 (pv 0)) de_int) da_nil)) de_int) de_int)) da_nil)) (de_var 1 (pv 1)))))))))))
omit [DL.Me] in
def F_Lany : FD := fnD N_Lany.length (kRet (m2 gIx (mVar 1) (mApp F_Lpull (mCons (mVar 0) (mCons (mCall gLen (mCons (mVar 1) mNil)) mNil)))))
theorem ok_Lany (T : Tx P w K mg base) : FnOk P w K mg base CX0 2 T.f_Lany T.fd_Lany ["_law_bag", "_law_rows_z"] (spD K 2 F_Lany) :=
  fn_ok T.F_Lany sc_Lany rfl fun cdv A outer s H E hr => (
    (dss_one (ds_ret (de_ix (de_var 1 (pv 1)) (de_call (ok_Lpull T) (hr.mono (by first | decide | omega)) (by rfl) T.m_Lpull T.F_Lpull.kp T.b_Lpull (da_cons (de_var 0 (pv 0)) (da_cons (de_callB call_len ok_len (by rfl) T.n_len (by decide +kernel) (da_cons (de_var 1 (pv 1)) da_nil)) da_nil)) (len_cons (len_cons len_nil)))))))
omit [DL.Me] in
def F_Lmixed : FD := fnD N_Lmixed.length (kSeq (kOwn 2 mNil)
    (kSeq (kFor (wLst (mVar 1)) (hName 3) (kDrop (DT.mInsert 2 (mApp F_Lpull (mCons (mVar 0) (mCons (m2 gAdd (mLenOwn 2) (mC (.int 1))) mNil))) (mVar 3))))
    (kRet (mMove 2))))
theorem ok_Lmixed (T : Tx P w K mg base) : FnOk P w K mg base CX0 2 T.f_Lmixed T.fd_Lmixed ["_law_bag", "_law_rows_z"] (spD K 2 F_Lmixed) :=
  fn_ok T.F_Lmixed sc_Lmixed rfl fun cdv A outer s H E hr => (
    (dss_cons (ds_own (i := 2) sc_Lmixed.nd rfl (by first | exact .inl rfl | exact .inr rfl) da_nil) (dss_cons (ds_for PassesOwn.never rfl (di_list (de_var 1 (pv 1))) (dg_name (i := 3) sc_Lmixed.nd rfl (by first | exact .inl rfl | exact .inr rfl)) (dss_one (ds_expr (DT.de_insert 2 (pv 2) (de_call (ok_Lpull T) (hr.mono (by first | decide | omega)) (by rfl) T.m_Lpull T.F_Lpull.kp T.b_Lpull (da_cons (de_var 0 (pv 0)) (da_cons (de_add (de_lenOwn 2 (pv 2) (by rfl) T.n_len) de_int) da_nil)) (len_cons (len_cons len_nil))) (de_var 3 (pv 3)) (by show Kp _ _; repeat' first | exact kp_var | exact kp_c | exact kp_nil | exact kp_lenOwn | apply kp_cons | apply kp_tup | apply kp_app | apply kp_rev | apply kp_wlst | apply kp_comp | apply kp_ix | apply DT.kp_tupOf | apply kp_lst | apply kp_wtup | apply kp_sl | apply kp_part | exact kp_nop | apply kp_subD | apply kp_getO | apply kp_m2 | apply DK.kp_mIf | apply DK.kp_mB) (by show Kp _ _; repeat' first | exact kp_var | exact kp_c | exact kp_nil | exact kp_lenOwn | apply kp_cons | apply kp_tup | apply kp_app | apply kp_rev | apply kp_wlst | apply kp_comp | apply kp_ix | apply DT.kp_tupOf | apply kp_lst | apply kp_wtup | apply kp_sl | apply kp_part | exact kp_nop | apply kp_subD | apply kp_getO | apply kp_m2 | apply DK.kp_mIf | apply DK.kp_mB))))) (dss_one (ds_ret (de_move 2 (pv 2)))))))
omit [DL.Me] in
def B_Llike (R : FD) : FD := fnD N_Llike.length (kSeq (kIf (mB (mIsi (fun d => isLst d || isTup d) (mVar 1))) (kSeq (kAsg (mAndV (m2 gEq (mIsi isLst (mVar 0)) (mIsi isLst (mVar 1))) (m2 gEq (mIsi isTup (mVar 0)) (mIsi isTup (mVar 1)))) (hName 2))
    (kRet (mAndV (mVar 2) (mAndV (m2 gEq (mCall gLen (mCons (mVar 0) mNil)) (mCall gLen (mCons (mVar 1) mNil))) (mCall gAll (mCons (mComp [3, 4] (wZip (mCons (mVar 0) (mCons (mVar 1) mNil))) (hTup 2 (hCons (hName 3) (hCons (hName 4) hNil))) mYes (mApp R (mCons (mVar 3) (mCons (mVar 4) mNil)))) mNil)))))) kSkip)
    (kSeq (kIf (mOrB (mB (m2 gIsN (mVar 0) (mC .non))) (mOrB (mB (m2 gIsN (mVar 1) (mC .non))) (mB (m2 gNe (mIsi isBl (mVar 0)) (mIsi isBl (mVar 1)))))) (kRet (mAndV (m2 gIsN (mVar 0) (mC .non)) (m2 gIsN (mVar 1) (mC .non)))) kSkip)
    (kRet (mAndV (m2 gEq (mIsi isInt (mVar 0)) (mIsi isInt (mVar 1))) (mAndV (m2 gEq (mIsi isStr (mVar 0)) (mIsi isStr (mVar 1))) (m2 gEq (mVar 0) (mVar 1)))))))
omit [DL.Me] in
def F_Llike : Nat → FD
  | 0 => fun _ _ => none
  | n + 1 => B_Llike (F_Llike n)
theorem step_Llike (T : Tx P w K mg base) {k : Nat} {R : FD} (hk : 0 ≤ k) (ih : FnOk P w K mg base CX0 k T.f_Llike T.fd_Llike ["_law_a", "_law_b"] (spD K 2 R)) : FnOk P w K mg base CX0 (k + 1) T.f_Llike T.fd_Llike ["_law_a", "_law_b"] (spD K 2 (B_Llike R)) :=
  fn_ok T.F_Llike sc_Llike rfl fun cdv A outer s H E hr => (
    (dss_cons (ds_if (dt_val (de_isi2 kit_lst kit_tup (by rfl) T.n_isinstance (by decide +kernel) (de_var 1 (pv 1)) (by rfl) T.n_list (by decide +kernel) (by rfl) T.n_tuple (by decide +kernel))) (dss_cons (ds_set (i := 2) sc_Llike.nd rfl (by first | exact .inl rfl | exact .inr rfl) (de_and (de_cmp (op_eqD hr.units) r2_eq (de_isi kit_lst (by rfl) T.n_isinstance (by decide +kernel) (de_var 0 (pv 0)) (by rfl) T.n_list (by decide +kernel)) (de_isi kit_lst (by rfl) T.n_isinstance (by decide +kernel) (de_var 1 (pv 1)) (by rfl) T.n_list (by decide +kernel)) (nomark _)) (de_one (de_cmp (op_eqD hr.units) r2_eq (de_isi kit_tup (by rfl) T.n_isinstance (by decide +kernel) (de_var 0 (pv 0)) (by rfl) T.n_tuple (by decide +kernel)) (de_isi kit_tup (by rfl) T.n_isinstance (by decide +kernel) (de_var 1 (pv 1)) (by rfl) T.n_tuple (by decide +kernel)) (nomark _))))) (dss_one (ds_ret (de_and (de_var 2 (pv 2)) (de_and (de_cmp (op_eqD hr.units) r2_eq (de_callB call_len ok_len (by rfl) T.n_len (by decide +kernel) (da_cons (de_var 0 (pv 0)) da_nil)) (de_callB call_len ok_len (by rfl) T.n_len (by decide +kernel) (da_cons (de_var 1 (pv 1)) da_nil)) (nomark _)) (de_one (de_callB (cr_all rfl) ok_all (by rfl) T.n_all (by decide +kernel) (da_cons (de_comp (own := [("_law_c", 3), ("_law_d", 4)]) rfl sc_Llike.nd (di_zip (by rfl) T.n_zip (da_cons (de_var 0 (pv 0)) (da_cons (de_var 1 (pv 1)) da_nil))) (blkOk_by (own := [("_law_c", 3), ("_law_d", 4)]) (N := N_Llike) (sc := defScope s_Llike) (by decide +kernel)) (fun _ _ _ _ _ => (dg_tup rfl (dgs_cons (dg_name (i := 3) sc_Llike.nd rfl (by first | exact .inl rfl | exact .inr rfl)) (dgs_cons (dg_name (i := 4) sc_Llike.nd rfl (by first | exact .inl rfl | exact .inr rfl)) dgs_nil)))) (fun _ _ _ _ _ => dts_nil) (fun _ _ _ _ _ => (de_call ih (hr.mono (by omega)) (by rfl) T.m_Llike T.F_Llike.kp T.b_Llike (da_cons (de_var 3 (pv 3)) (da_cons (de_var 4 (pv 4)) da_nil)) (len_cons (len_cons len_nil)))) (by decide)) da_nil)))))))) dss_nil) (dss_cons (ds_if (DW.dt (dw_or (dt_cmp op_isN r2_isN (de_var 0 (pv 0)) de_non (nomark _)) (dw_or (dt_cmp op_isN r2_isN (de_var 1 (pv 1)) de_non (nomark _)) (dw_or1 (dt_cmp (op_neD hr.units) r2_ne (de_isi kit_bl (by rfl) T.n_isinstance (by decide +kernel) (de_var 0 (pv 0)) (by rfl) T.n_bool (by decide +kernel)) (de_isi kit_bl (by rfl) T.n_isinstance (by decide +kernel) (de_var 1 (pv 1)) (by rfl) T.n_bool (by decide +kernel)) (nomark _)))))) (dss_one (ds_ret (de_and (de_cmp op_isN r2_isN (de_var 0 (pv 0)) de_non (nomark _)) (de_one (de_cmp op_isN r2_isN (de_var 1 (pv 1)) de_non (nomark _)))))) dss_nil) (dss_one (ds_ret (de_and (de_cmp (op_eqD hr.units) r2_eq (de_isi kit_int (by rfl) T.n_isinstance (by decide +kernel) (de_var 0 (pv 0)) (by rfl) T.n_int (by decide +kernel)) (de_isi kit_int (by rfl) T.n_isinstance (by decide +kernel) (de_var 1 (pv 1)) (by rfl) T.n_int (by decide +kernel)) (nomark _)) (de_and (de_cmp (op_eqD hr.units) r2_eq (de_isi kit_str (by rfl) T.n_isinstance (by decide +kernel) (de_var 0 (pv 0)) (by rfl) T.n_str (by decide +kernel)) (de_isi kit_str (by rfl) T.n_isinstance (by decide +kernel) (de_var 1 (pv 1)) (by rfl) T.n_str (by decide +kernel)) (nomark _)) (de_one (de_cmp (op_eqD hr.units) r2_eq (de_var 0 (pv 0)) (de_var 1 (pv 1)) (nomark _))))))))))
theorem ok_Llike (T : Tx P w K mg base) : ∀ n : Nat, FnOk P w K mg base CX0 (0 + n) T.f_Llike T.fd_Llike ["_law_a", "_law_b"] (spD K 2 (F_Llike n))
  | 0 => fn_none
  | n + 1 => step_Llike T (Nat.le_add_right _ _) (ok_Llike T n)
omit [DL.Me] in
def F_Lreserved : FD := fnD N_Lreserved.length (kRet (mLst (mCons (mC (.str "and")) (mCons (mC (.str "found")) (mCons (mC (.str "key")) (mCons (mC (.str "next")) (mCons (mC (.str "not")) (mCons (mC (.str "or")) (mCons (mC (.str "own")) (mCons (mC (.str "set")) (mCons (mC (.str "true")) (mCons (mC (.str "where")) mNil))))))))))))
theorem ok_Lreserved (T : Tx P w K mg base) : FnOk P w K mg base CX0 1 T.f_Lreserved T.fd_Lreserved [] (spD K 0 F_Lreserved) :=
  fn_ok T.F_Lreserved sc_Lreserved rfl fun cdv A outer s H E hr => (
    (dss_one (ds_ret (de_lst (da_cons de_str (da_cons de_str (da_cons de_str (da_cons de_str (da_cons de_str (da_cons de_str (da_cons de_str (da_cons de_str (da_cons de_str (da_cons de_str da_nil))))))))))))))
omit [DL.Me] in
def F_Lnew_names : FD := fnD N_Lnew_names.length (kSeq (kAsg (mC (.str "abcdefghijklmnopqrstuvwxyz")) (hName 2))
    (kSeq (kAsg (mM1 gJoin (mC (.str "")) (mComp [7] (wRng1 (mCons (mApp F_Lpull (mCons (mVar 0) (mCons (mC (.int 5)) mNil))) mNil)) (hName 7) mYes (mApp F_Lany (mCons (mVar 0) (mCons (mVar 2) mNil))))) (hName 3))
    (kSeq (kAsg (mTup (mCons (mApp F_Lpull (mCons (mVar 0) (mCons (m2 gAdd (mCall gLen (mCons (mVar 3) mNil)) (mC (.int 1))) mNil))) (mCons (mApp F_Lpull (mCons (mVar 0) (mCons (mC (.int 26)) mNil))) mNil))) (hTup 2 (hCons (hName 5) (hCons (hName 6) hNil))))
    (kSeq (kAsg (mComp [7] (wRng1 (mCons (mVar 1) mNil)) (hName 7) mYes (m2 gAdd (m2 gAdd (mSl (mVar 3) mNoP (mPart (mVar 5))) (m2 gIx (mVar 2) (m2 gSub0 (m2 gAdd (mVar 6) (mVar 7)) (mC (.int 26))))) (mSl (mVar 3) (mPart (mVar 5)) mNoP))) (hName 4))
    (kRet (mComp [8] (wLst (mVar 4)) (hName 8) mYes (mIf (mB (m2 gIn (mVar 8) (mApp F_Lreserved mNil))) (m2 gAdd (mVar 8) (mC (.str "q"))) (mVar 8))))))))
theorem ok_Lnew_names (T : Tx P w K mg base) : FnOk P w K mg base CX0 3 T.f_Lnew_names T.fd_Lnew_names ["_law_bag", "_law_many"] (spD K 2 F_Lnew_names) :=
  fn_ok T.F_Lnew_names sc_Lnew_names rfl fun cdv A outer s H E hr => (
    (dss_cons (ds_set (i := 2) sc_Lnew_names.nd rfl (by first | exact .inl rfl | exact .inr rfl) de_str) (dss_cons (ds_set (i := 3) sc_Lnew_names.nd rfl (by first | exact .inl rfl | exact .inr rfl) (de_join de_str (de_comp (own := [("_law_k", 7)]) rfl sc_Lnew_names.nd (di_rng1 (by rfl) T.n_range (da_cons (de_call (ok_Lpull T) (hr.mono (by first | decide | omega)) (by rfl) T.m_Lpull T.F_Lpull.kp T.b_Lpull (da_cons (de_var 0 (pv 0)) (da_cons de_int da_nil)) (len_cons (len_cons len_nil))) da_nil)) (blkOk_by (own := [("_law_k", 7)]) (N := N_Lnew_names) (sc := defScope s_Lnew_names) (by decide +kernel)) (fun _ _ _ _ _ => (dg_name (i := 7) sc_Lnew_names.nd rfl (by first | exact .inl rfl | exact .inr rfl))) (fun _ _ _ _ _ => dts_nil) (fun _ _ _ _ _ => (de_call (ok_Lany T) (hr.mono (by first | decide | omega)) (by rfl) T.m_Lany T.F_Lany.kp T.b_Lany (da_cons (de_var 0 (pv 0)) (da_cons (de_var 2 (pv 2)) da_nil)) (len_cons (len_cons len_nil)))) (by decide)))) (dss_cons (ds_asg (de_tup (da_cons (de_call (ok_Lpull T) (hr.mono (by first | decide | omega)) (by rfl) T.m_Lpull T.F_Lpull.kp T.b_Lpull (da_cons (de_var 0 (pv 0)) (da_cons (de_add (de_callB call_len ok_len (by rfl) T.n_len (by decide +kernel) (da_cons (de_var 3 (pv 3)) da_nil)) de_int) da_nil)) (len_cons (len_cons len_nil))) (da_cons (de_call (ok_Lpull T) (hr.mono (by first | decide | omega)) (by rfl) T.m_Lpull T.F_Lpull.kp T.b_Lpull (da_cons (de_var 0 (pv 0)) (da_cons de_int da_nil)) (len_cons (len_cons len_nil))) da_nil))) (dg_tup rfl (dgs_cons (dg_name (i := 5) sc_Lnew_names.nd rfl (by first | exact .inl rfl | exact .inr rfl)) (dgs_cons (dg_name (i := 6) sc_Lnew_names.nd rfl (by first | exact .inl rfl | exact .inr rfl)) dgs_nil)))) (dss_cons (ds_setComp (i := 4) (own := [("_law_k", 7)]) rfl sc_Lnew_names.nd rfl rfl (sw_true rfl rfl rfl (by decide +kernel)) (di_rng1 (by rfl) T.n_range (da_cons (de_var 1 (pv 1)) da_nil)) (blkOk_by (own := [("_law_k", 7)]) (N := N_Lnew_names) (sc := defScope s_Lnew_names) (by decide +kernel)) (fun _ _ _ _ _ => (dg_name (i := 7) sc_Lnew_names.nd rfl (by first | exact .inl rfl | exact .inr rfl))) (fun _ _ _ _ _ => dts_nil) (fun _ _ _ _ _ => (de_add (de_add (de_sl (de_var 3 (pv 3)) do_none (do_some (de_var 5 (pv 5)))) (de_ix (de_var 2 (pv 2)) (de_sub (de_add (de_var 6 (pv 6)) (de_var 7 (pv 7))) de_int))) (de_sl (de_var 3 (pv 3)) (do_some (de_var 5 (pv 5))) do_none))) (by decide)) (dss_one (ds_ret (de_comp (own := [("_law_row", 8)]) rfl sc_Lnew_names.nd (di_list (de_var 4 (pv 4))) (blkOk_by (own := [("_law_row", 8)]) (N := N_Lnew_names) (sc := defScope s_Lnew_names) (by decide +kernel)) (fun _ _ _ _ _ => (dg_name (i := 8) sc_Lnew_names.nd rfl (by first | exact .inl rfl | exact .inr rfl))) (fun _ _ _ _ _ => dts_nil) (fun _ _ _ _ _ => (de_ifx (dt_cmp (op_in_str.or op_in_seq) r2_in (de_var 8 (pv 8)) (de_call0 (ok_Lreserved T) (hr.mono (by decide)) (by rfl) T.m_Lreserved T.F_Lreserved.kp T.b_Lreserved) (by rfl)) (de_add (de_var 8 (pv 8)) de_str) (de_var 8 (pv 8)))) (by decide)))))))))
omit [DL.Me] in
def F_Lnear : FD := fnD N_Lnear.length (kRet (mApp F_Lany (mCons (mVar 0) (mCons (mLst (mCons (mC (.int 0)) (mCons (mC (.int 1)) (mCons (mC (.int 1)) (mCons (mC (.int 2)) (mCons (mC (.int 3)) (mCons (m2 gSub0 (mC (.int 0)) (mC (.int 1))) (mCons (m2 gSub0 (mC (.int 0)) (mC (.int 2))) mNil)))))))) mNil))))
theorem ok_Lnear (T : Tx P w K mg base) : FnOk P w K mg base CX0 3 T.f_Lnear T.fd_Lnear ["_law_bag"] (spD K 1 F_Lnear) :=
  fn_ok T.F_Lnear sc_Lnear rfl fun cdv A outer s H E hr => (
    (dss_one (ds_ret (de_call (ok_Lany T) (hr.mono (by first | decide | omega)) (by rfl) T.m_Lany T.F_Lany.kp T.b_Lany (da_cons (de_var 0 (pv 0)) (da_cons (de_lst (da_cons de_int (da_cons de_int (da_cons de_int (da_cons de_int (da_cons de_int (da_cons (de_sub de_int de_int) (da_cons (de_sub de_int de_int) da_nil)))))))) da_nil)) (len_cons (len_cons len_nil))))))
omit [DL.Me] in
def F_Lrows : FD := fnD N_Lrows.length (kSeq (kParOwn 4 5 (m2 gSub0 (mApp F_Lnear (mCons (mVar 0) mNil)) (mC (.int 2))))
    (kSeq (kFor (wRng1 (mCons (mApp F_Lpull (mCons (mVar 0) (mCons (m2 gAdd (mVar 2) (mC (.int 1))) mNil))) mNil)) (hName 3) (kSeq (kAsg (m2 gAdd (m2 gAdd (mVar 4) (mC (.int 1))) (mApp F_Lany (mCons (mVar 0) (mCons (mLst (mCons (mC (.int 0)) (mCons (mC (.int 0)) (mCons (mC (.int 1)) (mCons (mC (.int 2)) mNil))))) mNil)))) (hName 4))
    (kDrop (mAppend 5 (DT.mTupOf (m2 gAdd (mLst (mCons (mVar 4) mNil)) (mComp [6] (wTup (mSl (mVar 1) (mPart (mC (.int 1))) mNoP)) (hName 6) mYes (mIf (mB (m2 oGt (mApp F_Lpull (mCons (mVar 0) (mCons (mC (.int 3)) mNil))) (mC (.int 0)))) (m2 gAdd (mVar 4) (mApp F_Lnear (mCons (mVar 0) mNil))) (mApp F_Lnear (mCons (mVar 0) mNil))))))))))
    (kRet (mMove 5))))
theorem ok_Lrows (T : Tx P w K mg base) : FnOk P w K mg base CX0 4 T.f_Lrows T.fd_Lrows ["_law_bag", "_law_columns", "_law_most"] (spD K 3 F_Lrows) :=
  fn_ok T.F_Lrows sc_Lrows rfl fun cdv A outer s H E hr => (
    (dss_cons (ds_parOwnT (i := 4) (j := 5) rfl sc_Lrows.nd rfl rfl (by first | exact .inl rfl | exact .inr rfl) (by first | exact .inl rfl | exact .inr rfl) (by first | exact .inl rfl | exact .inr rfl) (by first | exact .inl rfl | exact .inr rfl) (de_sub (de_call (ok_Lnear T) (hr.mono (by first | decide | omega)) (by rfl) T.m_Lnear T.F_Lnear.kp T.b_Lnear (da_cons (de_var 0 (pv 0)) da_nil) (len_cons len_nil)) de_int)) (dss_cons (ds_for PassesOwn.never rfl (di_rng1 (by rfl) T.n_range (da_cons (de_call (ok_Lpull T) (hr.mono (by first | decide | omega)) (by rfl) T.m_Lpull T.F_Lpull.kp T.b_Lpull (da_cons (de_var 0 (pv 0)) (da_cons (de_add (de_var 2 (pv 2)) de_int) da_nil)) (len_cons (len_cons len_nil))) da_nil)) (dg_name (i := 3) sc_Lrows.nd rfl (by first | exact .inl rfl | exact .inr rfl)) (dss_cons (ds_set (i := 4) sc_Lrows.nd rfl (by first | exact .inl rfl | exact .inr rfl) (de_add (de_add (de_var 4 (pv 4)) de_int) (de_call (ok_Lany T) (hr.mono (by first | decide | omega)) (by rfl) T.m_Lany T.F_Lany.kp T.b_Lany (da_cons (de_var 0 (pv 0)) (da_cons (de_lst (da_cons de_int (da_cons de_int (da_cons de_int (da_cons de_int da_nil))))) da_nil)) (len_cons (len_cons len_nil))))) (dss_one (ds_expr (de_append 5 (pv 5) (DT.de_tupOf (by rfl) T.n_tuple (de_add (de_lst (da_cons (de_var 4 (pv 4)) da_nil)) (de_comp (own := [("_law_c", 6)]) rfl sc_Lrows.nd (di_tup (de_sl (de_var 1 (pv 1)) (do_some de_int) do_none)) (blkOk_by (own := [("_law_c", 6)]) (N := N_Lrows) (sc := defScope s_Lrows) (by decide +kernel)) (fun _ _ _ _ _ => (dg_name (i := 6) sc_Lrows.nd rfl (by first | exact .inl rfl | exact .inr rfl))) (fun _ _ _ _ _ => dts_nil) (fun _ _ _ _ _ => (de_ifx (dt_cmp (op_gt.or op_gt_str) r2_gt (de_call (ok_Lpull T) (hr.mono (by first | decide | omega)) (by rfl) T.m_Lpull T.F_Lpull.kp T.b_Lpull (da_cons (de_var 0 (pv 0)) (da_cons de_int da_nil)) (len_cons (len_cons len_nil))) de_int (nomark _)) (de_add (de_var 4 (pv 4)) (de_call (ok_Lnear T) (hr.mono (by first | decide | omega)) (by rfl) T.m_Lnear T.F_Lnear.kp T.b_Lnear (da_cons (de_var 0 (pv 0)) da_nil) (len_cons len_nil))) (de_call (ok_Lnear T) (hr.mono (by first | decide | omega)) (by rfl) T.m_Lnear T.F_Lnear.kp T.b_Lnear (da_cons (de_var 0 (pv 0)) da_nil) (len_cons len_nil)))) (by decide)))) (by show Kp _ _; repeat' first | exact kp_var | exact kp_c | exact kp_nil | exact kp_lenOwn | apply kp_cons | apply kp_tup | apply kp_app | apply kp_rev | apply kp_wlst | apply kp_comp | apply kp_ix | apply DT.kp_tupOf | apply kp_lst | apply kp_wtup | apply kp_sl | apply kp_part | exact kp_nop | apply kp_subD | apply kp_getO | apply kp_m2 | apply DK.kp_mIf | apply DK.kp_mB)))))) (dss_one (ds_ret (de_move 5 (pv 5)))))))
open DX in
omit [DL.Me] in
def FX_all_columns : DX.FDX := DX.fnDX N_all_columns.length (kSeqX (kIfX (mNotB (mB (mApp F_are_names (mCons (mVar 0) (mCons (mC c_MOST_COLUMNS) mNil))))) (kRaise "InvalidColumns") (kVal kSkip))
    (kVal (kRet (mTup (mCons (mC (.str "key")) (mStar (mVar 0) mNil))))))
theorem okX_all_columns (T : Tx P w K mg base) : FnOk P w K mg base (L2.CX P w) 3 T.f_all_columns T.fd_all_columns ["columns"] (DX.spX K 1 FX_all_columns) :=
  DX.fnx_ok T.F_all_columns sc_all_columns rfl fun cdv A outer s H E hr tk => (
    open DX in (dssx_cons (dsx_if (dt_not (dt_val (de_call (ok_are_names T) (hr.mono (by first | decide | omega)) (by rfl) T.m_are_names T.F_are_names.kp T.b_are_names (da_cons (de_var 0 (pv 0)) (da_cons (T.e_MOST_COLUMNS rfl rfl (by rfl)) da_nil)) (len_cons (len_cons len_nil))))) (dssx_one (dsx_raiseK T.E_InvalidColumns tk (hr.mono (by first | decide | omega)) (ok_init (k := 0) T.F_init sc_init rfl (Or.inl rfl) fun _ => rfl) T.b_init (by rfl))) dssx_nil) (dssx_one (dsx_val (ds_ret (de_tup (da_cons de_str (da_star (de_var 0 (pv 0)) da_nil))))))))
open DX in
omit [DL.Me] in
def FX_checked_rows_ : DX.FDX := DX.fnDX N_checked_rows_.length (kSeqX (kIfX (mNotB (mB (mIsi (fun d => isLst d || isTup d) (mVar 0)))) (kRaiseF "InvalidRow" "index" (mC (.int 0))) (kVal kSkip))
    (kSeqX (kVal (kOwnDC 3 [6] (wLst (mVar 2)) (hName 6) mYes (mVar 6) (mC (.bl true))))
    (kSeqX (kForX (DH.wEnumS (mCons (mVar 0) mNil)) (hTup 2 (hCons (hName 4) (hCons (hName 5) hNil))) (kSeqX (kIfX (mOrB (mNotB (mB (mApp F_is_row_ (mCons (mVar 5) (mCons (mVar 1) mNil))))) (mB (mInO 3 (m2 gIx (mVar 5) (mC (.int 0)))))) (kRaiseF "InvalidRow" "index" (mVar 4)) (kVal kSkip))
    (kVal (kPutO 3 (m2 gIx (mVar 5) (mC (.int 0))) (mC (.bl true))))))
    (kVal (kRet (mCall gListOf (mCons (mVar 0) mNil)))))))
theorem okX_checked_rows_ (T : Tx P w K mg base) : FnOk P w K mg base (L2.CX P w) 4 T.f_checked_rows_ T.fd_checked_rows_ ["rows", "many", "taken"] (DX.spX K 3 FX_checked_rows_) :=
  DX.fnx_ok T.F_checked_rows_ sc_checked_rows_ rfl fun cdv A outer s H E hr tk => (
    open DX in (dssx_cons (dsx_if (dt_not (dt_val (de_isi2 kit_lst kit_tup (by rfl) T.n_isinstance (by decide +kernel) (de_var 0 (pv 0)) (by rfl) T.n_list (by decide +kernel) (by rfl) T.n_tuple (by decide +kernel)))) (dssx_one (dsx_raiseFK T.E_InvalidRow tk (hr.mono (by first | decide | omega)) (ok_init (k := 0) T.F_init sc_init rfl (Or.inl rfl) fun _ => rfl) T.b_init (by rfl) de_int)) dssx_nil) (dssx_cons (dsx_val (ds_ownDC (i := 3) (own := [("key", 6)]) rfl sc_checked_rows_.nd rfl rfl (sw_trueD rfl rfl rfl (by decide +kernel)) (di_list (de_var 2 (pv 2))) (blkOk_by (own := [("key", 6)]) (N := N_checked_rows_) (sc := defScope s_checked_rows_) (by decide +kernel)) (fun _ _ _ _ _ => (dg_name (i := 6) sc_checked_rows_.nd rfl (by first | exact .inl rfl | exact .inr rfl))) (fun _ _ _ _ _ => dts_nil) (fun _ _ _ _ _ => (de_var 6 (pv 6))) (fun _ _ _ _ _ => de_bl) (by decide))) (dssx_cons (dsx_for (passes_of rfl) rfl (DH.di_enumS (by rfl) T.n_enumerate (da_cons (de_var 0 (pv 0)) da_nil)) (dg_tup rfl (dgs_cons (dg_name (i := 4) sc_checked_rows_.nd rfl (by first | exact .inl rfl | exact .inr rfl)) (dgs_cons (dg_name (i := 5) sc_checked_rows_.nd rfl (by first | exact .inl rfl | exact .inr rfl)) dgs_nil))) (dssx_cons (dsx_if (DW.dt (dw_or (dt_not (dt_val (de_call (ok_is_row_ T) (hr.mono (by first | decide | omega)) (by rfl) T.m_is_row_ T.F_is_row_.kp T.b_is_row_ (da_cons (de_var 5 (pv 5)) (da_cons (de_var 1 (pv 1)) da_nil)) (len_cons (len_cons len_nil))))) (dw_or1 (dt_inO 3 (pv 3) (hu_of hr) (de_ix (de_var 5 (pv 5)) de_int))))) (dssx_one (dsx_raiseFK T.E_InvalidRow tk (hr.mono (by first | decide | omega)) (ok_init (k := 0) T.F_init sc_init rfl (Or.inl rfl) fun _ => rfl) T.b_init (by rfl) (de_var 4 (pv 4)))) dssx_nil) (dssx_one (dsx_val (ds_putO (i := 3) (hu_of hr) (pv 3) (de_ix (de_var 5 (pv 5)) de_int) de_bl (by show Kp _ _; repeat' first | exact kp_var | exact kp_c | exact kp_nil | exact kp_lenOwn | apply kp_cons | apply kp_tup | apply kp_app | apply kp_ix | apply kp_subD | apply kp_getO | apply kp_m2 | apply DK.kp_mIf | apply DK.kp_mB)))))) (dssx_one (dsx_val (ds_ret (de_callT call_list_of ok_listOf (by rfl) T.n_list (by decide +kernel) (da_cons (de_var 0 (pv 0)) da_nil)))))))))
open DX in
omit [DL.Me] in
def FX_Table_M__init__ : DJ.FIX := DJ.fnIX N_Table_M__init__.length "Table" (kSeqX (DJ.kFldX 0 "Table" "_columns" (mAppX FX_all_columns (mCons (mVar 1) mNil)))
    (DJ.kFldX 0 "Table" "_rows" (DJ.mCallX DT.gSorted (mAppX FX_checked_rows_ (mCons (mVar 2) (mCons (mCall gLen (mCons (DI.mFldO 0 "Table" "_columns") mNil)) (mCons (mLst mNil) mNil)))))))
theorem okX_Table_M__init__ (T : Tx P w K mg base) : FnOk P w K mg base (L2.CX P w) 5 T.f_Table_M__init__ T.fd_Table_M__init__ ["self", "columns", "rows"] (DJ.spIX K "Table" 3 FX_Table_M__init__) :=
  DJ.fn_okIX T.F_Table_M__init__ sc_Table_M__init__ rfl fun me cdv A outer s H E hr tk => (
    letI := me
    open DX in (dssx_cons (DJ.dsx_fld T.nf_Table__columns (pv 0) (dex_call (okX_all_columns T) (hr.mono (by first | decide | omega)) (by rfl) T.m_all_columns T.F_all_columns.kp T.b_all_columns tk (da_cons (de_var 1 (pv 1)) da_nil) (len_cons len_nil))) (dssx_one (DJ.dsx_fld T.nf_Table__rows (pv 0) (DJ.dex_callB STI.cr_sortedL DT.ok_sorted (by rfl) T.n_sorted (by decide +kernel) (dex_call (okX_checked_rows_ T) (hr.mono (by first | decide | omega)) (by rfl) T.m_checked_rows_ T.F_checked_rows_.kp T.b_checked_rows_ tk (da_cons (de_var 2 (pv 2)) (da_cons (de_callB call_len ok_len (by rfl) T.n_len (by decide +kernel) (da_cons (DI.de_fldO T.nf_Table__columns (pv 0)) da_nil)) (da_cons (de_lst da_nil) da_nil))) (len_cons (len_cons (len_cons len_nil)))))))))
theorem okX_Table_Mempty (T : Tx P w K mg base) : FnR P w K mg base (L2.CX P w) 7 T.f_Table_Mempty (DJ.spEmX K "Table" (.tup []) FX_Table_M__init__) :=
  DJ.fn_okEmX (dv0 := .ref T.ev_Table) T.F_Table_Mempty sc_Table_Mempty rfl (fun _ _ _ _ _ _ us rest hl => match us, hl, rest with | [_], _, [] => rfl | [_], _, _ :: _ => rfl) T.C_Table T.M_Table (okX_Table_M__init__ T) T.bd_Table_M__init__ rfl (fun β G => is_tup.mpr ⟨T.ev_Table, [], rfl, T.s0_Table G, isl_nil.mpr rfl⟩) (fun cdv A outer s H E => ⟨(by first | exact .inl rfl | exact .inr (.inl rfl)), pv 1, rfl, rfl⟩)
open DX in
omit [DL.Me] in
def FX_Procedure_M__init__ : DJ.FIX := DJ.fnIX N_Procedure_M__init__.length "Procedure" (kSeqX (DJ.kFldX 0 "Procedure" "_columns" (mAppX FX_all_columns (mCons (mVar 1) mNil)))
    (kSeqX (kVal (fun _ => none))
    (kSeqX (kVal (fun _ => none))
    (kSeqX (kVal (fun _ => none))
    (kSeqX (kVal (fun _ => none))
    (kVal (fun _ => none)))))))
theorem okX_Procedure_M__init__ (T : Tx P w K mg base) : FnOk P w K mg base (L2.CX P w) 4 T.f_Procedure_M__init__ T.fd_Procedure_M__init__ ["self", "columns", "arguments", "statements"] (DJ.spIX K "Procedure" 4 FX_Procedure_M__init__) :=
  DJ.fn_okIXF T.F_Procedure_M__init__ sc_Procedure_M__init__ rfl fun me cdv A outer s H E hr tk => (
    letI := me
    open DX in (dssx_cons (DJ.dsx_fld T.nf_Procedure__columns (pv 0) (dex_call (okX_all_columns T) (hr.mono (by first | decide | omega)) (by rfl) T.m_all_columns T.F_all_columns.kp T.b_all_columns tk (da_cons (de_var 1 (pv 1)) da_nil) (len_cons len_nil))) (dssx_cons (dsx_val ds_never) (dssx_cons (dsx_val ds_never) (dssx_cons (dsx_val ds_never) (dssx_cons (dsx_val ds_never) (dssx_one (dsx_val ds_never))))))))
open DX in
omit [DL.Me] in
def FX_Rules_M__init__ : DJ.FIX := DJ.fnIX N_Rules_M__init__.length "Rules" (kSeqX (DJ.kFldX 0 "Rules" "_columns" (mAppX FX_all_columns (mCons (mVar 1) mNil)))
    (kSeqX (kVal (fun _ => none))
    (kSeqX (kVal (fun _ => none))
    (kSeqX (kVal (fun _ => none))
    (kVal (fun _ => none))))))
theorem okX_Rules_M__init__ (T : Tx P w K mg base) : FnOk P w K mg base (L2.CX P w) 4 T.f_Rules_M__init__ T.fd_Rules_M__init__ ["self", "columns", "rows", "nexts"] (DJ.spIX K "Rules" 4 FX_Rules_M__init__) :=
  DJ.fn_okIX T.F_Rules_M__init__ sc_Rules_M__init__ rfl fun me cdv A outer s H E hr tk => (
    letI := me
    open DX in (dssx_cons (DJ.dsx_fld T.nf_Rules__columns (pv 0) (dex_call (okX_all_columns T) (hr.mono (by first | decide | omega)) (by rfl) T.m_all_columns T.F_all_columns.kp T.b_all_columns tk (da_cons (de_var 1 (pv 1)) da_nil) (len_cons len_nil))) (dssx_cons (dsx_val ds_never) (dssx_cons (dsx_val ds_never) (dssx_cons (dsx_val ds_never) (dssx_one (dsx_val ds_never)))))))
omit [DL.Me] in
noncomputable def B_law : DMs := (kSeq (kFor (wRng1 (mCons (mC (.int 6)) mNil)) (hName 2) (kSeq (kAsg (mApp F_Lnew_names (mCons (mVar 1) (mCons (mC (.int 5)) mNil))) (hName 4))
    (kSeq (kAsg (mApp F_Lany (mCons (mVar 1) (mCons (mLst (mCons (mSl (mVar 4) mNoP (mPart (mC (.int 4)))) (mCons (mLst (mCons (m2 gIx (mVar 4) (mC (.int 0))) (mCons (m2 gIx (mVar 4) (mC (.int 0))) mNil))) (mCons (mLst (mCons (m2 gIx (mVar 4) (mC (.int 0))) (mCons (mC (.str "key")) mNil))) (mCons (mLst (mCons (mC (.str "A")) mNil)) (mCons (mC .non) (mCons (mC (.int 3)) (mCons (m2 gIx (mVar 4) (mC (.int 0))) (mCons (mLst (mCons (mC .non) mNil)) (mCons (mLst (mCons (mC (.str "own")) mNil)) (mCons (mLst (mCons (mC (.str "")) mNil)) (mCons (mLst (mCons (m2 gIx (mVar 4) (mC (.int 1))) (mCons (m2 gIx (mVar 4) (mC (.int 0))) (mCons (m2 gIx (mVar 4) (mC (.int 1))) mNil)))) (mCons (mLst (mCons (mTup (mCons (mC (.str "a")) mNil)) mNil)) (mCons (mLst (mCons (mC (.str "abcdefg")) mNil)) mNil)))))))))))))) mNil))) (hName 5))
    (kSeq (kAsg (mApp F_Lany (mCons (mVar 1) (mCons (mLst (mCons (mLst (mCons (mTup (mCons (mC (.int 1)) mNil)) mNil)) (mCons (mC .non) (mCons (mLst (mCons (mTup (mCons (mC (.int 1)) (mCons (mC (.int 2)) mNil))) (mCons (mTup (mCons (mC (.int 1)) (mCons (mC (.int 3)) mNil))) mNil))) mNil)))) mNil))) (hName 6))
    (DX.kLams 7 4 ((("law" : Str) ++ ".<locals>.") ++ "<lambda>") fun ps => (kSeq (kIf (mNotB (mB (mApp (F_Llike 5) (mCons (DX.mTriesV 7 ps ((("law" : Str) ++ ".<locals>.") ++ "<lambda>") [("InvalidRow", "index")] "" [(DJ.mMakeX FX_Table_M__init__ [] (mCons (mVar 5) (mCons (mVar 6) mNil))), (DJ.mMakeX FX_Table_M__init__ [.tup []] (mCons (mVar 5) mNil)), (DJ.mMakeX FX_Procedure_M__init__ [] (mCons (mVar 5) (mCons (mC .non) (mCons (mC .non) mNil)))), (DJ.mMakeKX FX_Rules_M__init__ [.tup []] (mCons (mVar 5) mNil) (mCons (mC .non) mNil))]) (mCons (m2 DX.gRep (mLst (mCons (mTup (mCons (mC (.str "InvalidColumns")) (mCons (mTup mNil) mNil))) mNil)) (mC (.int 4))) mNil))))) (kRet (mC (.bl false))) kSkip)
    (kSeq (kAsg (m2 gAdd (mTup (mCons (mC (.str "key")) mNil)) (DT.mTupOf (mSl (mVar 4) mNoP (mPart (mApp F_Lpull (mCons (mVar 1) (mCons (mC (.int 4)) mNil))))))) (hName 8))
    (kSeq (kAsg (mApp F_Lmixed (mCons (mVar 1) (mCons (mApp F_Lrows (mCons (mVar 1) (mCons (mVar 8) (mCons (mC (.int 5)) mNil)))) mNil))) (hName 9))
    (kSeq (kAsg (m2 DT.gTMul (mTup (mCons (mC (.int 0)) mNil)) (m2 gSub0 (mCall gLen (mCons (mVar 8) mNil)) (mC (.int 1)))) (hName 10))
    (kSeq (kAsg (mApp F_Lany (mCons (mVar 1) (mCons (mLst (mCons (mC .non) (mCons (mC (.int 3)) (mCons (mTup mNil) (mCons (m2 gAdd (mTup (mCons (mC (.bl true)) mNil)) (mVar 10)) (mCons (m2 gAdd (mLst (mCons (mC (.int 9)) mNil)) (mCall gListOf (mCons (mVar 10) mNil))) (mCons (m2 gAdd (m2 gAdd (mTup (mCons (mC (.int 9)) mNil)) (mVar 10)) (mTup (mCons (mC (.int 1)) mNil))) (mCons (m2 gAdd (mTup (mCons (mC (.str "9")) mNil)) (mVar 10)) (mCons (m2 DT.gTMul (mTup (mCons (mC .non) mNil)) (mCall gLen (mCons (mVar 8) mNil))) mNil))))))))) mNil))) (hName 11))
    (kSeq (kAsg (mApp F_Lpull (mCons (mVar 1) (mCons (m2 gAdd (mCall gLen (mCons (mVar 9) mNil)) (mC (.int 1))) mNil))) (hName 12))
    (kSeq (kIf (mAndB (mB (m2 gNe (mVar 9) (mLst mNil))) (mB (m2 gEq (mApp F_Lpull (mCons (mVar 1) (mCons (mC (.int 2)) mNil))) (mC (.int 0))))) (kSeq (kAsg (m2 gAdd (mC (.int 1)) (mApp F_Lpull (mCons (mVar 1) (mCons (mCall gLen (mCons (mVar 9) mNil)) mNil)))) (hName 12))
    (kAsg (m2 gAdd (mTup (mCons (m2 gIx (mApp F_Lany (mCons (mVar 1) (mCons (mSl (mVar 9) mNoP (mPart (mVar 12))) mNil))) (mC (.int 0))) mNil)) (m2 DT.gTMul (mTup (mCons (mC (.int 5)) mNil)) (m2 gSub0 (mCall gLen (mCons (mVar 8) mNil)) (mC (.int 1))))) (hName 11))) kSkip)
    (kSeq (kAsg (m2 gAdd (m2 gAdd (m2 gAdd (mSl (mVar 9) mNoP (mPart (mVar 12))) (mLst (mCons (mVar 11) mNil))) (mSl (mVar 9) (mPart (mVar 12)) mNoP)) (m2 DX.gRep (mLst (mCons (mC .non) mNil)) (mApp F_Lpull (mCons (mVar 1) (mCons (mC (.int 2)) mNil))))) (hName 13))
    (kIf (mNotB (mB (mApp (F_Llike 5) (mCons (mTry [("InvalidRow", "index")] "" (DJ.mMakeX FX_Table_M__init__ [] (mCons (mSl (mVar 8) (mPart (mC (.int 1))) mNoP) (mCons (mVar 13) mNil)))) (mCons (mTup (mCons (mC (.str "InvalidRow")) (mCons (mTup (mCons (mVar 12) mNil)) mNil))) mNil))))) (kRet (mC (.bl false))) kSkip))))))))))))))
    (kSeq (kAsg (mApp F_Lany (mCons (mVar 1) (mCons (mLst (mCons (mC .non) (mCons (mC (.int 3)) (mCons (mC (.str "rows")) mNil)))) mNil))) (hName 3))
    (kRet (mApp (F_Llike 5) (mCons (mTries [("InvalidRow", "index")] "" [(DJ.mMakeX FX_Table_M__init__ [] (mCons (mLst mNil) (mCons (mVar 3) mNil))), (DJ.mEmX FX_Table_M__init__ (.tup []) (mCons (mC (.str "a")) (mCons (mC (.str "a")) mNil)))]) (mCons (mLst (mCons (mTup (mCons (mC (.str "InvalidRow")) (mCons (mTup (mCons (mC (.int 0)) mNil)) mNil))) (mCons (mTup (mCons (mC (.str "InvalidColumns")) (mCons (mTup mNil) mNil))) mNil))) mNil))))))
set_option maxHeartbeats 4000000 in
theorem dss_law (T : Tx P w K mg base) {A : Around} {outer : List Env} {s : Shared} {H : Hp} {E : XK} (hr : Room 43 (A.deeper (envOfC "law" (defScope s_law) s.heap.objs.size T.f_law (.ref T.cl_law)))) :
    DSs (cxOf CX0 P w K mg base N_law "law" (defScope s_law) T.f_law (.ref T.cl_law) A outer s H E).nox (defBody s_law).tail B_law := (
    (dss_cons (ds_for PassesOwn.never rfl (di_rng1 (by rfl) T.n_range (da_cons de_int da_nil)) (dg_name (i := 2) sc_law.nd rfl (by first | exact .inl rfl | exact .inr rfl)) (dss_cons (ds_set (i := 4) sc_law.nd rfl (by first | exact .inl rfl | exact .inr rfl) (de_call (ok_Lnew_names T) (hr.mono (by first | decide | omega)) (by rfl) T.m_Lnew_names T.F_Lnew_names.kp T.b_Lnew_names (da_cons (de_var 1 (pv 1)) (da_cons de_int da_nil)) (len_cons (len_cons len_nil)))) (dss_cons (ds_set (i := 5) sc_law.nd rfl (by first | exact .inl rfl | exact .inr rfl) (de_call (ok_Lany T) (hr.mono (by first | decide | omega)) (by rfl) T.m_Lany T.F_Lany.kp T.b_Lany (da_cons (de_var 1 (pv 1)) (da_cons (de_lst (da_cons (de_sl (de_var 4 (pv 4)) do_none (do_some de_int)) (da_cons (de_lst (da_cons (de_ix (de_var 4 (pv 4)) de_int) (da_cons (de_ix (de_var 4 (pv 4)) de_int) da_nil))) (da_cons (de_lst (da_cons (de_ix (de_var 4 (pv 4)) de_int) (da_cons de_str da_nil))) (da_cons (de_lst (da_cons de_str da_nil)) (da_cons de_non (da_cons de_int (da_cons (de_ix (de_var 4 (pv 4)) de_int) (da_cons (de_lst (da_cons de_non da_nil)) (da_cons (de_lst (da_cons de_str da_nil)) (da_cons (de_lst (da_cons de_str da_nil)) (da_cons (de_lst (da_cons (de_ix (de_var 4 (pv 4)) de_int) (da_cons (de_ix (de_var 4 (pv 4)) de_int) (da_cons (de_ix (de_var 4 (pv 4)) de_int) da_nil)))) (da_cons (de_lst (da_cons (de_tup (da_cons de_str da_nil)) da_nil)) (da_cons (de_lst (da_cons de_str da_nil)) da_nil)))))))))))))) da_nil)) (len_cons (len_cons len_nil)))) (dss_cons (ds_set (i := 6) sc_law.nd rfl (by first | exact .inl rfl | exact .inr rfl) (de_call (ok_Lany T) (hr.mono (by first | decide | omega)) (by rfl) T.m_Lany T.F_Lany.kp T.b_Lany (da_cons (de_var 1 (pv 1)) (da_cons (de_lst (da_cons (de_lst (da_cons (de_tup (da_cons de_int da_nil)) da_nil)) (da_cons de_non (da_cons (de_lst (da_cons (de_tup (da_cons de_int (da_cons de_int da_nil))) (da_cons (de_tup (da_cons de_int (da_cons de_int da_nil))) da_nil))) da_nil)))) da_nil)) (len_cons (len_cons len_nil)))) (DX.dss_lamvar (k := 40) (i := 7) (g := fun ps => (kSeq (kIf (mNotB (mB (mApp (F_Llike 5) (mCons (DX.mTriesV 7 ps ((("law" : Str) ++ ".<locals>.") ++ "<lambda>") [("InvalidRow", "index")] "" [(DJ.mMakeX FX_Table_M__init__ [] (mCons (mVar 5) (mCons (mVar 6) mNil))), (DJ.mMakeX FX_Table_M__init__ [.tup []] (mCons (mVar 5) mNil)), (DJ.mMakeX FX_Procedure_M__init__ [] (mCons (mVar 5) (mCons (mC .non) (mCons (mC .non) mNil)))), (DJ.mMakeKX FX_Rules_M__init__ [.tup []] (mCons (mVar 5) mNil) (mCons (mC .non) mNil))]) (mCons (m2 DX.gRep (mLst (mCons (mTup (mCons (mC (.str "InvalidColumns")) (mCons (mTup mNil) mNil))) mNil)) (mC (.int 4))) mNil))))) (kRet (mC (.bl false))) kSkip)
    (kSeq (kAsg (m2 gAdd (mTup (mCons (mC (.str "key")) mNil)) (DT.mTupOf (mSl (mVar 4) mNoP (mPart (mApp F_Lpull (mCons (mVar 1) (mCons (mC (.int 4)) mNil))))))) (hName 8))
    (kSeq (kAsg (mApp F_Lmixed (mCons (mVar 1) (mCons (mApp F_Lrows (mCons (mVar 1) (mCons (mVar 8) (mCons (mC (.int 5)) mNil)))) mNil))) (hName 9))
    (kSeq (kAsg (m2 DT.gTMul (mTup (mCons (mC (.int 0)) mNil)) (m2 gSub0 (mCall gLen (mCons (mVar 8) mNil)) (mC (.int 1)))) (hName 10))
    (kSeq (kAsg (mApp F_Lany (mCons (mVar 1) (mCons (mLst (mCons (mC .non) (mCons (mC (.int 3)) (mCons (mTup mNil) (mCons (m2 gAdd (mTup (mCons (mC (.bl true)) mNil)) (mVar 10)) (mCons (m2 gAdd (mLst (mCons (mC (.int 9)) mNil)) (mCall gListOf (mCons (mVar 10) mNil))) (mCons (m2 gAdd (m2 gAdd (mTup (mCons (mC (.int 9)) mNil)) (mVar 10)) (mTup (mCons (mC (.int 1)) mNil))) (mCons (m2 gAdd (mTup (mCons (mC (.str "9")) mNil)) (mVar 10)) (mCons (m2 DT.gTMul (mTup (mCons (mC .non) mNil)) (mCall gLen (mCons (mVar 8) mNil))) mNil))))))))) mNil))) (hName 11))
    (kSeq (kAsg (mApp F_Lpull (mCons (mVar 1) (mCons (m2 gAdd (mCall gLen (mCons (mVar 9) mNil)) (mC (.int 1))) mNil))) (hName 12))
    (kSeq (kIf (mAndB (mB (m2 gNe (mVar 9) (mLst mNil))) (mB (m2 gEq (mApp F_Lpull (mCons (mVar 1) (mCons (mC (.int 2)) mNil))) (mC (.int 0))))) (kSeq (kAsg (m2 gAdd (mC (.int 1)) (mApp F_Lpull (mCons (mVar 1) (mCons (mCall gLen (mCons (mVar 9) mNil)) mNil)))) (hName 12))
    (kAsg (m2 gAdd (mTup (mCons (m2 gIx (mApp F_Lany (mCons (mVar 1) (mCons (mSl (mVar 9) mNoP (mPart (mVar 12))) mNil))) (mC (.int 0))) mNil)) (m2 DT.gTMul (mTup (mCons (mC (.int 5)) mNil)) (m2 gSub0 (mCall gLen (mCons (mVar 8) mNil)) (mC (.int 1))))) (hName 11))) kSkip)
    (kSeq (kAsg (m2 gAdd (m2 gAdd (m2 gAdd (mSl (mVar 9) mNoP (mPart (mVar 12))) (mLst (mCons (mVar 11) mNil))) (mSl (mVar 9) (mPart (mVar 12)) mNoP)) (m2 DX.gRep (mLst (mCons (mC .non) mNil)) (mApp F_Lpull (mCons (mVar 1) (mCons (mC (.int 2)) mNil))))) (hName 13))
    (kIf (mNotB (mB (mApp (F_Llike 5) (mCons (mTry [("InvalidRow", "index")] "" (DJ.mMakeX FX_Table_M__init__ [] (mCons (mSl (mVar 8) (mPart (mC (.int 1))) mNoP) (mCons (mVar 13) mNil)))) (mCons (mTup (mCons (mC (.str "InvalidRow")) (mCons (mTup (mCons (mVar 12) mNil)) mNil))) mNil))))) (kRet (mC (.bl false))) kSkip)))))))))) (DX.Lams.cons (r := ⟨_, _, _⟩) ⟨(DX.makes_plain T.B_law rfl T.i_law (fun p hp e => DL.Tabs.uq p hp _ T.i_law e) (fun ok => DX.LamS2.has (show DX.LamS2 N_law (defScope s_law) _ from DX.lamS2_by (by decide +kernel)) ok) rfl (fun _ _ _ _ _ _ => rfl)), rfl, (show DX.LamS2 N_law (defScope s_law) _ from DX.lamS2_by (by decide +kernel)), fun A outer s H E fa c' hr tk => (DJ.dex_make (dd := []) (dvs := []) (dus := []) T.M_Table T.C_Table (okX_Table_M__init__ T) (hr.mono (by first | decide | omega)) (by rfl) T.m_Table T.b_Table_M__init__ .nil (fun _ _ => isl_nil.mpr rfl) tk (da_cons (de_var 5 (pv 5)) (da_cons (de_var 6 (pv 6)) da_nil)) (fun s ds s' h => congrArg (· + 1) ((len_cons (len_cons len_nil)) s ds s' h)))⟩ (DX.Lams.cons (r := ⟨_, _, _⟩) ⟨(DX.makes_int (y := "_law_a") (i := 0) T.B_law rfl T.i_law (fun p hp e => DL.Tabs.uq p hp _ T.i_law e) (fun ok => DX.LamS2.has (show DX.LamS2 N_law (defScope s_law) _ from DX.lamS2_by (by decide +kernel)) ok) rfl rfl (by decide +kernel) (fun _ _ _ _ _ _ _ => ⟨_, rfl, fun _ => rfl⟩)), rfl, (show DX.LamS2 N_law (defScope s_law) _ from DX.lamS2_by (by decide +kernel)), fun A outer s H E fa c' hr tk => (DJ.dex_make (dd := [.tup []]) (dvs := [.ref T.ev_Table]) (dus := [.ref T.ev_Table]) T.M_Table T.C_Table (okX_Table_M__init__ T) (hr.mono (by first | decide | omega)) (by rfl) T.m_Table T.bd_Table_M__init__ (.cons rfl .nil) (fun β G => isl_cons.mpr ⟨_, _, rfl, is_tup.mpr ⟨T.ev_Table, [], rfl, T.s0_Table G, isl_nil.mpr rfl⟩, isl_nil.mpr rfl⟩) tk (da_cons (de_var 5 (pv 5)) da_nil) (fun s ds s' h => congrArg (· + 2) ((len_cons len_nil) s ds s' h)))⟩ (DX.Lams.cons (r := ⟨_, _, _⟩) ⟨(DX.makes_int (y := "_law_b") (i := 0) T.B_law rfl T.i_law (fun p hp e => DL.Tabs.uq p hp _ T.i_law e) (fun ok => DX.LamS2.has (show DX.LamS2 N_law (defScope s_law) _ from DX.lamS2_by (by decide +kernel)) ok) rfl rfl (by decide +kernel) (fun _ _ _ _ _ _ _ => ⟨_, rfl, fun _ => rfl⟩)), rfl, (show DX.LamS2 N_law (defScope s_law) _ from DX.lamS2_by (by decide +kernel)), fun A outer s H E fa c' hr tk => (DJ.dex_make (dd := []) (dvs := []) (dus := []) T.M_Procedure T.C_Procedure (okX_Procedure_M__init__ T) (hr.mono (by first | decide | omega)) (by rfl) T.m_Procedure T.b_Procedure_M__init__ .nil (fun _ _ => isl_nil.mpr rfl) tk (da_cons (de_var 5 (pv 5)) (da_cons de_non (da_cons de_non da_nil))) (fun s ds s' h => congrArg (· + 1) ((len_cons (len_cons (len_cons len_nil))) s ds s' h)))⟩ (DX.Lams.cons (r := ⟨_, _, _⟩) ⟨(DX.makes_int (y := "_law_c") (i := 0) T.B_law rfl T.i_law (fun p hp e => DL.Tabs.uq p hp _ T.i_law e) (fun ok => DX.LamS2.has (show DX.LamS2 N_law (defScope s_law) _ from DX.lamS2_by (by decide +kernel)) ok) rfl rfl (by decide +kernel) (fun _ _ _ _ _ _ _ => ⟨_, rfl, fun _ => rfl⟩)), rfl, (show DX.LamS2 N_law (defScope s_law) _ from DX.lamS2_by (by decide +kernel)), fun A outer s H E fa c' hr tk => (DJ.dex_makeK (m := 1) (dd := [.tup []]) (dvs := [.ref T.ev_Rules]) (fun _ _ => rfl) T.M_Rules T.C_Rules (okX_Rules_M__init__ T) (hr.mono (by first | decide | omega)) (by rfl) T.m_Rules T.kr_Rules.choose_spec (fun β G => isl_cons.mpr ⟨_, _, rfl, is_tup.mpr ⟨T.ev_Rules, [], rfl, T.s0_Rules G, isl_nil.mpr rfl⟩, isl_nil.mpr rfl⟩) tk (da_cons (de_var 5 (pv 5)) da_nil) (DL.dk_cons de_non DL.dk_nil) (fun s ds s' h => (len_cons len_nil) s ds s' h) (fun s ds s' h => (len_cons len_nil) s ds s' h) rfl)⟩ DX.Lams.nil)))) rfl rfl (by decide) sc_law.nd rfl (by first | exact .inl rfl | exact .inr rfl) (fun ps pn hM hps hpn => (dss_cons (ds_if (dt_not (dt_val (de_call (ok_Llike T 5) (hr.mono (by first | decide | omega)) (by rfl) T.m_Llike T.F_Llike.kp T.b_Llike (da_cons (DX.de_triesV (k := 40) (e0 := "") (own1 := [("_law_ask", 1)]) T.y_T1 T.y_T2 T.y_T3 T.F_Ltries sc_Ltries rfl T.b_Ltries (by rfl) T.m_Ltries (blkOk_by (own := [("_law_ask", 1)]) (N := N_Ltries) (sc := defScope s_Ltries) (by decide +kernel)) rfl rfl rfl (by first | exact Or.inl rfl | exact Or.inr (Or.inl rfl)) (by rfl) (fun _ => rfl) (fun _ => (Nat.le_refl 2 : (1 : Nat) < 2)) T.F_Ltry sc_Ltry T.b_Ltry T.m_Ltry (by rfl) rfl (by first | exact Or.inl rfl | exact Or.inr (Or.inl rfl)) (fun B hp hw hK hm hr cdv => try_okB (k := 0) T hp hw hK hm (hr.mono (by first | decide | omega)) cdv) hM (fun _ => rfl) (hr.mono (by first | decide | omega)) (by decide) hpn rfl rfl (by first | exact Or.inl rfl | exact Or.inr (Or.inl rfl))) (da_cons (DX.de_rep (de_lst (da_cons (de_tup (da_cons de_str (da_cons (de_tup da_nil) da_nil))) da_nil)) de_int) da_nil)) (len_cons (len_cons len_nil))))) (dss_one (ds_ret de_bl)) dss_nil) (dss_cons (ds_set (i := 8) sc_law.nd rfl (by first | exact .inl rfl | exact .inr rfl) (de_add (de_tup (da_cons de_str da_nil)) (DT.de_tupOf (by rfl) T.n_tuple (de_sl (de_var 4 (pv 4)) do_none (do_some (de_call (ok_Lpull T) (hr.mono (by first | decide | omega)) (by rfl) T.m_Lpull T.F_Lpull.kp T.b_Lpull (da_cons (de_var 1 (pv 1)) (da_cons de_int da_nil)) (len_cons (len_cons len_nil)))))))) (dss_cons (ds_set (i := 9) sc_law.nd rfl (by first | exact .inl rfl | exact .inr rfl) (de_call (ok_Lmixed T) (hr.mono (by first | decide | omega)) (by rfl) T.m_Lmixed T.F_Lmixed.kp T.b_Lmixed (da_cons (de_var 1 (pv 1)) (da_cons (de_call (ok_Lrows T) (hr.mono (by first | decide | omega)) (by rfl) T.m_Lrows T.F_Lrows.kp T.b_Lrows (da_cons (de_var 1 (pv 1)) (da_cons (de_var 8 (pv 8)) (da_cons de_int da_nil))) (len_cons (len_cons (len_cons len_nil)))) da_nil)) (len_cons (len_cons len_nil)))) (dss_cons (ds_set (i := 10) sc_law.nd rfl (by first | exact .inl rfl | exact .inr rfl) (DT.de_tmul (de_tup (da_cons de_int da_nil)) (de_sub (de_callB call_len ok_len (by rfl) T.n_len (by decide +kernel) (da_cons (de_var 8 (pv 8)) da_nil)) de_int))) (dss_cons (ds_set (i := 11) sc_law.nd rfl (by first | exact .inl rfl | exact .inr rfl) (de_call (ok_Lany T) (hr.mono (by first | decide | omega)) (by rfl) T.m_Lany T.F_Lany.kp T.b_Lany (da_cons (de_var 1 (pv 1)) (da_cons (de_lst (da_cons de_non (da_cons de_int (da_cons (de_tup da_nil) (da_cons (de_add (de_tup (da_cons de_bl da_nil)) (de_var 10 (pv 10))) (da_cons (de_add (de_lst (da_cons de_int da_nil)) (de_callT call_list_of ok_listOf (by rfl) T.n_list (by decide +kernel) (da_cons (de_var 10 (pv 10)) da_nil))) (da_cons (de_add (de_add (de_tup (da_cons de_int da_nil)) (de_var 10 (pv 10))) (de_tup (da_cons de_int da_nil))) (da_cons (de_add (de_tup (da_cons de_str da_nil)) (de_var 10 (pv 10))) (da_cons (DT.de_tmul (de_tup (da_cons de_non da_nil)) (de_callB call_len ok_len (by rfl) T.n_len (by decide +kernel) (da_cons (de_var 8 (pv 8)) da_nil))) da_nil))))))))) da_nil)) (len_cons (len_cons len_nil)))) (dss_cons (ds_set (i := 12) sc_law.nd rfl (by first | exact .inl rfl | exact .inr rfl) (de_call (ok_Lpull T) (hr.mono (by first | decide | omega)) (by rfl) T.m_Lpull T.F_Lpull.kp T.b_Lpull (da_cons (de_var 1 (pv 1)) (da_cons (de_add (de_callB call_len ok_len (by rfl) T.n_len (by decide +kernel) (da_cons (de_var 9 (pv 9)) da_nil)) de_int) da_nil)) (len_cons (len_cons len_nil)))) (dss_cons (ds_if (DW.dt (dw_and (dt_cmp (op_neD hr.units) r2_ne (de_var 9 (pv 9)) (de_lst da_nil) (nomark _)) (dw_and1 (dt_cmp (op_eqD hr.units) r2_eq (de_call (ok_Lpull T) (hr.mono (by first | decide | omega)) (by rfl) T.m_Lpull T.F_Lpull.kp T.b_Lpull (da_cons (de_var 1 (pv 1)) (da_cons de_int da_nil)) (len_cons (len_cons len_nil))) de_int (nomark _))))) (dss_cons (ds_set (i := 12) sc_law.nd rfl (by first | exact .inl rfl | exact .inr rfl) (de_add de_int (de_call (ok_Lpull T) (hr.mono (by first | decide | omega)) (by rfl) T.m_Lpull T.F_Lpull.kp T.b_Lpull (da_cons (de_var 1 (pv 1)) (da_cons (de_callB call_len ok_len (by rfl) T.n_len (by decide +kernel) (da_cons (de_var 9 (pv 9)) da_nil)) da_nil)) (len_cons (len_cons len_nil))))) (dss_one (ds_set (i := 11) sc_law.nd rfl (by first | exact .inl rfl | exact .inr rfl) (de_add (de_tup (da_cons (de_ix (de_call (ok_Lany T) (hr.mono (by first | decide | omega)) (by rfl) T.m_Lany T.F_Lany.kp T.b_Lany (da_cons (de_var 1 (pv 1)) (da_cons (de_sl (de_var 9 (pv 9)) do_none (do_some (de_var 12 (pv 12)))) da_nil)) (len_cons (len_cons len_nil))) de_int) da_nil)) (DT.de_tmul (de_tup (da_cons de_int da_nil)) (de_sub (de_callB call_len ok_len (by rfl) T.n_len (by decide +kernel) (da_cons (de_var 8 (pv 8)) da_nil)) de_int)))))) dss_nil) (dss_cons (ds_set (i := 13) sc_law.nd rfl (by first | exact .inl rfl | exact .inr rfl) (de_add (de_add (de_add (de_sl (de_var 9 (pv 9)) do_none (do_some (de_var 12 (pv 12)))) (de_lst (da_cons (de_var 11 (pv 11)) da_nil))) (de_sl (de_var 9 (pv 9)) (do_some (de_var 12 (pv 12))) do_none)) (DX.de_rep (de_lst (da_cons de_non da_nil)) (de_call (ok_Lpull T) (hr.mono (by first | decide | omega)) (by rfl) T.m_Lpull T.F_Lpull.kp T.b_Lpull (da_cons (de_var 1 (pv 1)) (da_cons de_int da_nil)) (len_cons (len_cons len_nil)))))) (dss_one (ds_if (dt_not (dt_val (de_call (ok_Llike T 5) (hr.mono (by first | decide | omega)) (by rfl) T.m_Llike T.F_Llike.kp T.b_Llike (da_cons (de_tryF (k := 40) (e0 := "") T.F_Ltry sc_Ltry T.y_T1 T.y_T2 T.y_T3 (by rfl) T.m_Ltry T.b_Ltry rfl (by first | exact Or.inl rfl | exact Or.inr (Or.inl rfl)) (fun cdv => try_ok (k := 0) T rfl rfl rfl rfl rfl (hr.mono (by first | decide | omega)) cdv) T.i_law T.B_law rfl (hr.mono (by first | decide | omega)) (show LamX.LamS (defScope s_law) _ from LamX.lamS_by (by decide +kernel)) rfl (fun _ _ _ _ _ => rfl) (fun A outer s H E fa c' hr tk => (DJ.dex_make (dd := []) (dvs := []) (dus := []) T.M_Table T.C_Table (okX_Table_M__init__ T) (hr.mono (by first | decide | omega)) (by rfl) T.m_Table T.b_Table_M__init__ .nil (fun _ _ => isl_nil.mpr rfl) tk (da_cons (de_sl (de_var 8 (pv 8)) (do_some de_int) do_none) (da_cons (de_var 13 (pv 13)) da_nil)) (fun s ds s' h => congrArg (· + 1) ((len_cons (len_cons len_nil)) s ds s' h))))) (da_cons (de_tup (da_cons de_str (da_cons (de_tup (da_cons (de_var 12 (pv 12)) da_nil)) da_nil))) da_nil)) (len_cons (len_cons len_nil))))) (dss_one (ds_ret de_bl)) dss_nil)))))))))))))))) (dss_cons (ds_set (i := 3) sc_law.nd rfl (by first | exact .inl rfl | exact .inr rfl) (de_call (ok_Lany T) (hr.mono (by first | decide | omega)) (by rfl) T.m_Lany T.F_Lany.kp T.b_Lany (da_cons (de_var 1 (pv 1)) (da_cons (de_lst (da_cons de_non (da_cons de_int (da_cons de_str da_nil)))) da_nil)) (len_cons (len_cons len_nil)))) (dss_one (ds_ret (de_call (ok_Llike T 5) (hr.mono (by first | decide | omega)) (by rfl) T.m_Llike T.F_Llike.kp T.b_Llike (da_cons (DX.de_tries (k := 40) (e0 := "") (own1 := [("_law_ask", 1)]) T.y_T1 T.y_T2 T.y_T3 T.F_Ltries sc_Ltries rfl T.b_Ltries (by rfl) T.m_Ltries (blkOk_by (own := [("_law_ask", 1)]) (N := N_Ltries) (sc := defScope s_Ltries) (by decide +kernel)) rfl rfl rfl (by first | exact Or.inl rfl | exact Or.inr (Or.inl rfl)) (by rfl) (fun _ => rfl) (fun _ => (Nat.le_refl 2 : (1 : Nat) < 2)) T.F_Ltry sc_Ltry T.b_Ltry T.m_Ltry (by rfl) rfl (by first | exact Or.inl rfl | exact Or.inr (Or.inl rfl)) (fun B hp hw hK hm hr cdv => try_okB (k := 0) T hp hw hK hm (hr.mono (by first | decide | omega)) cdv) (DX.Lams.cons (r := ⟨_, _, _⟩) ⟨(DX.makes_plain T.B_law rfl T.i_law (fun p hp e => DL.Tabs.uq p hp _ T.i_law e) (fun ok => DX.LamS2.has (show DX.LamS2 N_law (defScope s_law) _ from DX.lamS2_by (by decide +kernel)) ok) rfl (fun _ _ _ _ _ _ => rfl)), rfl, (show DX.LamS2 N_law (defScope s_law) _ from DX.lamS2_by (by decide +kernel)), fun A outer s H E fa c' hr tk => (DJ.dex_make (dd := []) (dvs := []) (dus := []) T.M_Table T.C_Table (okX_Table_M__init__ T) (hr.mono (by first | decide | omega)) (by rfl) T.m_Table T.b_Table_M__init__ .nil (fun _ _ => isl_nil.mpr rfl) tk (da_cons (de_lst da_nil) (da_cons (de_var 3 (pv 3)) da_nil)) (fun s ds s' h => congrArg (· + 1) ((len_cons (len_cons len_nil)) s ds s' h)))⟩ (DX.Lams.cons (r := ⟨_, _, _⟩) ⟨(DX.makes_int (y := "_law_a") (i := 0) T.B_law rfl T.i_law (fun p hp e => DL.Tabs.uq p hp _ T.i_law e) (fun ok => DX.LamS2.has (show DX.LamS2 N_law (defScope s_law) _ from DX.lamS2_by (by decide +kernel)) ok) rfl rfl (by decide +kernel) (fun _ _ _ _ _ _ _ => ⟨_, rfl, fun _ => rfl⟩)), rfl, (show DX.LamS2 N_law (defScope s_law) _ from DX.lamS2_by (by decide +kernel)), fun A outer s H E fa c' hr tk => (DJ.dex_em T.C_Table T.cr_Table T.cm_Table_Mempty (okX_Table_Mempty T) (hr.mono (by first | decide | omega)) (by rfl) T.m_Table tk (da_cons de_str (da_cons de_str da_nil)))⟩ DX.Lams.nil)) (fun _ => rfl) (hr.mono (by first | decide | omega)) (by decide)) (da_cons (de_lst (da_cons (de_tup (da_cons de_str (da_cons (de_tup (da_cons de_int da_nil)) da_nil))) (da_cons (de_tup (da_cons de_str (da_cons (de_tup da_nil) da_nil))) da_nil))) da_nil)) (len_cons (len_cons len_nil))))))))
abbrev lvLaw : Nat := 44
end
def spDraws (K : PySem.W.Frag) : Sp := fun vs H Q _ => ∃ (a : Addr) (ns : List Int), vs = [.ref a] ∧ SqL K H a (ns.map V.int) ∧ ns.length ≤ 63 ∧
  ∀ (β l : Addr) (seed : Int) (H' : Hp), 0 ≤ seed → seed < 2147483549 → Same H H' → H β = none → β ≠ l → H' l = some (.lst (ns.map V.int)) → H' β = some (.lst [.ref l, .int 0, .int 0, .int seed, .int 0]) → Q (.ref β) H'
theorem cut63 {ns : List Int} (h : ns.length ≤ 63) : cutV (ns.map V.int) none (some 63) = ns.map V.int := by
  unfold cutV
  have e1 : HT.sIx (ns.map V.int).length 0 none = 0 := rfl
  have e2 : HT.sIx (ns.map V.int).length (ns.map V.int).length (some 63) = ns.length := by
    unfold HT.sIx
    simp
    omega
  rw [e1, e2]
  exact List.take_of_length_le (by simp)
section
variable {P : Program} {w : World} {K : PySem.W.Frag} {mg : Str → Option Value} {base : Heap}
theorem ok_Ldraws (T : Tx P w K mg base) : FnOk P w K mg base CX0 1 T.f_Ldraws T.fd_Ldraws ["_law_script"] (spDraws K) := by
  refine T.F_Ldraws.ok sc_Ldraws (fun vs H Q E h => ?_) (fun cdv A outer s H vs Q E hr h => ?_)
  · obtain ⟨a, ns, rfl, _⟩ := h
    rfl
  · obtain ⟨a, ns, rfl, hS, hlen, k⟩ := h
    refine ⟨_, pss_cons (ps_set (i := 1) sc_Ldraws.nd rfl (.inl rfl) pe_int)
      (pss_cons (ps_for PassesOwn.never rfl (pi_list (pe_slice sl_list (pv 0) po_none (po_some pe_int))) (pg_name (i := 2) sc_Ldraws.nd rfl (.inl rfl)) (pss_one (ps_set (i := 1) sc_Ldraws.nd rfl (.inl rfl)
        (pe_op op_mod (pe_callTy call_int1 (by rfl) T.n_int (by decide +kernel) (pa_cons (pe_op op_add (pe_op op_add (pe_op op_mul (pv 1) pe_int) (pe_op op_mod (pe_callTy call_int1 (by rfl) T.n_int (by decide +kernel) (pa_cons (pv 2) pa_nil)) pe_int)) pe_int) pa_nil)) pe_int))))
      (pss_one (ps_ret (pe_lst (pa_cons (pe_callTy call_list_of (by rfl) T.n_list (by decide +kernel) (pa_cons (pe_slice sl_list (pv 0) po_none (po_some pe_int)) pa_nil)) (pa_cons pe_int (pa_cons pe_int (pa_cons (pv 1) (pa_cons pe_int pa_nil))))))))), ?_⟩
    refine ⟨_, rfl, _, rfl, a, _, rfl, hS, fun p hp => ⟨p, rfl, ⟨_, SqL.of upd_same⟩, ?_⟩⟩
    rw [cut63 hlen]
    have s1 : Same H (upd H p (.lst (ns.map V.int))) := fun b o e => by rw [upd_ne (ne_of_none e hp)]; exact e
    refine for_list (K := K) (a := p) (xs := ns.map V.int) (fun i σ H2 => ∃ (seed : Int) (v : Option V), 0 ≤ seed ∧ seed < 2147483549 ∧ σ = [some (.ref a), some (.int seed), v] ∧ H2 = upd H p (.lst (ns.map V.int)))
      ⟨5648, none, by decide, by decide, rfl, rfl⟩ (fun i σ H2 _ ⟨_, _, _, _, _, e⟩ => by rw [e]; exact SqL.of upd_same) ?_ ?_
    · rintro i y σ H2 hi ⟨seed, v, h0, h1, rfl, rfl⟩
      obtain ⟨z, rfl⟩ : ∃ z, y = V.int z := by
        rw [List.getElem?_map] at hi
        cases e : ns[i]? with
        | none => rw [e] at hi; cases hi
        | some z => rw [e] at hi; exact ⟨z, (Option.some.inj hi).symm⟩
      refine ⟨_, rfl, _, _, rfl, rfl, .inl ⟨by omega, by omega⟩, _, rfl, .inl ⟨_, rfl, _, _, rfl, rfl, (by show (0 : Int) < 2147483489; decide), _, _, rfl, rfl, _, _, rfl, rfl, .inl ⟨_, rfl, _, _, rfl, rfl, (by show (0 : Int) < 2147483549; decide), ?_⟩⟩⟩
      exact ⟨_, _, Int.emod_nonneg _ (by decide), Int.emod_lt_of_pos _ (by decide), rfl, rfl⟩
    · rintro σ H2 ⟨seed, v, h0, h1, rfl, rfl⟩
      refine ⟨_, rfl, _, rfl, a, ns.map V.int, rfl, ?_, fun q hq => ⟨q, _, rfl, .inl (SqL.of upd_same), fun l hl => ⟨_, rfl, (by show 5 ≤ sizeLine; decide), fun β hβ => ?_⟩⟩⟩
      · exact s1.seq hS
      · rw [cut63 hlen] at hl hβ ⊢
        have s2 : Same H (upd (upd (upd H p (.lst (ns.map V.int))) q (.lst (ns.map V.int))) l (.lst (ns.map V.int))) := fun b o e => by
          have e1 := s1 b o e
          rw [upd_ne (ne_of_none (show (upd (upd H p (.lst (ns.map V.int))) q (.lst (ns.map V.int))) b = some o by rw [upd_ne (ne_of_none e1 hq)]; exact e1) hl), upd_ne (ne_of_none e1 hq)]
          exact e1
        refine k β l seed _ h0 h1 (fun b o e => ?_) (s2.free hβ) ?_ ?_ upd_same
        · rw [upd_ne (ne_of_none (s2 b o e) hβ)]; exact s2 b o e
        · intro e; subst e; rw [upd_same] at hβ; cases hβ
        · have n : l ≠ β := by intro e; subst e; rw [upd_same] at hβ; cases hβ
          rw [upd_ne n, upd_same]
theorem ok_law (T : Tx P w K mg base) (hB : ∀ (ns : List Int) (seed : Int), ns.length ≤ 63 → 0 ≤ seed → seed < 2147483549 → ∃ s', B_law ⟨[none, some (.dat .bag)] ++ List.replicate (N_law.length - 2) none, bag0 ns seed⟩ = some (.rt (.bl true), s')) :
    FnOk P w K mg base CX0 lvLaw T.f_law T.fd_law ["_law_script"] (spLaw K) := by
  refine T.C_law.ok sc_law (fun vs H Q E h => ?_) (fun A outer s H vs Q E hr h => ?_)
  · obtain ⟨a, ns, rfl, _⟩ := h
    rfl
  · obtain ⟨a, ns, rfl, hS, hlen, ht, k⟩ := h
    obtain ⟨t, p, o⟩ := dss_law (P := P) (w := w) (base := base) T (A := A) (outer := outer) (s := s) (H := H) (E := E) hr
    refine ⟨_, pss_cons (ps_set (i := 1) sc_law.nd rfl (by first | exact .inl rfl | exact .inr rfl) (pe_call (ok_Ldraws T) (hr.mono (by decide)) (by rfl) T.m_Ldraws T.F_Ldraws.kp T.b_Ldraws .nil pass0 (pa_cons (pv 0) pa_nil))) p, ?_⟩
    refine ⟨_, rfl, a, ns, rfl, hS, hlen, fun β l seed H' h0 h1 sm _ hn hl hb => ?_⟩
    obtain ⟨s', hs⟩ := hB ns seed hlen h0 h1
    refine o β _ _ H' _ _ _ s' (law_rel (n := N_law.length - 2) (a := .ref a) hn hl hb fun q hq => sm _ _ (ht q hq)) hs _ ?_
    intro v σ' H2 G2 _ _ iv
    rw [is_bl.mp iv]
    exact k H2
end
abbrev dt (d : Dt) : Option Slo := some (.dat d)
def rowD (r : List Int) : Dt := .tup (r.map Dt.int)
theorem is_row_ok {r : List Int} {n : Nat} (h : r.length = n) (h1 : n ≤ 1000) (bg : List Dt) : F_is_row_ [rowD r, .int n] bg = some (.bl true, bg) := by
  let s : Sta := ⟨[dt (rowD r), dt (.int n), none], bg⟩
  refine fnd (s1 := s) (kret ?_)
  show mAndV _ _ s = _
  rw [andV_t (s1 := s) rfl, andV_t (s1 := s)]
  · refine mcall (s1 := s) (l := [.lst ((r.map Dt.int).map fun _ => .bl true)]) (mcons (s1 := s) (s2 := s) ?_ rfl) (gall_true _)
    refine mcomp (s1 := s) (l := r.map Dt.int) rfl (by rw [List.length_map]; omega) ?_
    refine comp_map (fun _ => .bl true) _ fun d hd => ?_
    obtain ⟨i, _, rfl⟩ := List.mem_map.mp hd
    exact ⟨⟨[dt (rowD r), dt (.int n), dt (.int i)], bg⟩, _, _, rfl, rfl, rfl, rfl⟩
  · refine m2_eq (s1 := s) (s2 := s) (x := .int (r.length : Nat)) (y := .int n) ?_ rfl ?_
    · show some (Dt.int ((r.map Dt.int).length : Nat), s) = _
      rw [List.length_map]
    · rw [eqII, h]
      simp
theorem hasK_put {ks : List Key} {k j : Key} : hasK (putKs ks k) j = (hasK ks j || decide (k = j)) := by
  unfold putKs
  by_cases c : hasK ks k = true
  · rw [if_pos c]
    by_cases e : k = j
    · subst e; rw [c]; rfl
    · simp [e]
  · rw [if_neg c]
    unfold hasK
    rw [List.any_append]
    simp
theorem putKs_le {ks : List Key} {k : Key} : (putKs ks k).length ≤ ks.length + 1 := by
  unfold putKs
  split
  · omega
  · simp
theorem taken_ok {sl0 : List (Option Slo)} (hs : sl0.length = 7) {bg : List Dt} : ∀ (tk : List Int) (ks : List Key) (l : List Dt), ks.length = l.length → ks.length + tk.length ≤ 1000 →
    ∃ ks' l', compDD sl0 (hName 6) mYes (mVar 6) (mC (.bl true)) (tk.map Dt.int) (ks, l) bg = some ((ks', l'), bg) ∧ ks'.length = l'.length ∧ ks'.length ≤ ks.length + tk.length ∧ ∀ j, hasK ks' j = (hasK ks j || decide (∃ i ∈ tk, j = Sum.inl i))
  | [], ks, l, h, _ => ⟨ks, l, rfl, h, by simp, fun j => by simp⟩
  | t :: tk, ks, l, h, hl => by
    rw [List.length_cons] at hl
    obtain ⟨ks', l', e1, e2, e3, e4⟩ := taken_ok (bg := bg) hs tk (putKs ks (.inl t)) (putLs ks l (.inl t) (.bl true)) (putKs_len h) (by have := putKs_le (ks := ks) (k := .inl t); omega)
    refine ⟨ks', l', ?_, e2, by have := putKs_le (ks := ks) (k := .inl t); rw [List.length_cons]; omega, fun j => ?_⟩
    · match sl0, hs with
      | [a, b, c, d, e, f, g], _ =>
        unfold compDD
        show (if ks.length < 100000 then compDD _ _ _ _ _ (tk.map Dt.int) (putKs ks (.inl t), putLs ks l (.inl t) (.bl true)) bg else none) = _
        rw [if_pos (by omega)]
        exact e1
    · rw [e4, hasK_put]
      by_cases c : j = Sum.inl t
      · subst c; simp
      · have c' : ¬ Sum.inl t = j := fun z => c z.symm
        simp [c, c']
/-- rows of n cells, whose keys differ from each other and from what is taken -/
structure RowsOk (n : Nat) (tk : List Int) (rs : List (List Int)) : Prop where
  len : ∀ r ∈ rs, r.length = n
  fresh : ∀ r ∈ rs, r.headD 0 ∉ tk
  diff : rs.Pairwise fun a b => a.headD 0 ≠ b.headD 0
theorem head_ix {r : List Int} (h : 0 < r.length) : gIx (rowD r) (.int 0) = some (.int (r.headD 0)) := by
  cases r with
  | nil => cases h
  | cons a r =>
    show atI ((a :: r).map Dt.int) 0 = _
    rw [ati_nat (by decide) (by rw [List.length_map, List.length_cons]; omega)]
    rfl
def ckTgt : Dt → Sta → Option Sta := hTup 2 (hCons (hName 4) (hCons (hName 5) hNil))
theorem q_is_name : F_is_name = sis_name := rfl
theorem txtsD_map : ∀ (ns : List Str), DT.txtsD (ns.map Dt.str) = some ns
  | [] => rfl
  | z :: r => by
    rw [List.map_cons]
    unfold DT.txtsD
    rw [txtsD_map r]
    rfl
theorem are_names_ok {ns : List Str} {D : Dt} (hD : D = .lst (ns.map Dt.str) ∨ D = .tup (ns.map Dt.str)) (hn : ∀ z ∈ ns, NameOk z) (hd : ns.Nodup) (hl : ns.length ≤ 3) (bg : List Dt) : F_are_names [D, .int 3] bg = some (.bl true, bg) := by
  let s : Sta := ⟨[dt D, dt (.int 3), none], bg⟩
  have hlen : mCall gLen (mCons (mVar 0) mNil) s = some (.int (ns.length : Nat), s) := by
    have e : mCall gLen (mCons (mVar 0) mNil) s = some (Dt.int ((ns.map Dt.str).length : Nat), s) := by rcases hD with rfl | rfl <;> rfl
    rw [e, List.length_map]
  refine fnd (s1 := s) ?_
  show kSeq _ _ s = _
  rw [kseq (s1 := s)]
  · refine kret ?_
    rw [andV_t (s1 := s)]
    · refine m2_eq (s1 := s) (s2 := s) (x := .int (ns.length : Nat)) (y := .int (ns.length : Nat)) ?_ hlen (by rw [eqII]; simp)
      have e : DJ.mLenSetR (mVar 0) s = (DT.txtsD (ns.map Dt.str)).bind fun zs => if zs.length ≤ 60 then some (.int (SD.cnt zs zs.length : Nat), s) else none := by rcases hD with rfl | rfl <;> rfl
      rw [e, txtsD_map]
      show (if ns.length ≤ 60 then _ else none) = _
      rw [if_pos (by omega), SD.cnt_all hd _ (Nat.le_refl _)]
    · refine mcall (s1 := s) (l := [.lst ((ns.map Dt.str).map fun _ => .bl true)]) (mcons (s1 := s) (s2 := s) ?_ rfl) (gall_true _)
      refine mcomp (s1 := s) (l := ns.map Dt.str) (by rcases hD with rfl | rfl <;> rfl) (by rw [List.length_map]; omega) ?_
      refine comp_map (fun _ => .bl true) _ fun d hz => ?_
      obtain ⟨z, hz2, rfl⟩ := List.mem_map.mp hz
      let s2 : Sta := ⟨[dt D, dt (.int 3), dt (.str z)], bg⟩
      refine ⟨s2, s2, s2, rfl, rfl, ?_, rfl⟩
      rw [q_is_name]
      exact mapp (s1 := s2) (ds := [.str z]) rfl (is_name_ok (hn z hz2) bg)
  · rw [kif_f (s1 := s)]
    · rfl
    · rw [or_f (s1 := s) (by rcases hD with rfl | rfl <;> rfl)]
      refine mBt (m2_eq (s1 := s) (s2 := s) (x := .int (ns.length : Nat)) (y := .int 3) hlen rfl ?_)
      show some (Dt.bl (decide ((3 : Int) < (ns.length : Nat)))) = _
      rw [decide_eq_false (by omega)]
def colsD (ns : List Str) : Dt := .tup (.str "key" :: ns.map Dt.str)
open DX in
theorem cols_x {ns : List Str} {D : Dt} (hD : D = .lst (ns.map Dt.str) ∨ D = .tup (ns.map Dt.str)) (hn : ∀ z ∈ ns, NameOk z) (hd : ns.Nodup) (hl : ns.length ≤ 3) (bg : List Dt) : FX_all_columns [D] bg = some (.inl (colsD ns), bg) := by
  let s : Sta := ⟨[dt D], bg⟩
  have c : mNotB (mB (mApp F_are_names (mCons (mVar 0) (mCons (mC c_MOST_COLUMNS) mNil)))) s = some (false, s) := by
    unfold mNotB
    rw [mBt (s1 := s) (b := true) (mapp (s1 := s) (ds := [D, .int 3]) rfl (are_names_ok hD hn hd hl bg))]
    rfl
  have e : mTup (mCons (mC (.str "key")) (mStar (mVar 0) mNil)) s = some (colsD ns, s) := by
    refine mtup (mcons (s1 := s) rfl ?_) (by rw [List.length_cons, List.length_map]; omega)
    have e : mStar (mVar 0) mNil s = some ((ns.map Dt.str) ++ [], s) := by rcases hD with rfl | rfl <;> rfl
    rw [e, List.append_nil]
  show (kSeqX _ _ s).bind _ = _
  unfold kSeqX kIfX
  rw [c, Option.bind_some]
  show (Option.bind (kVal (kRet (mTup (mCons (mC (.str "key")) (mStar (mVar 0) mNil)))) s) _) = _
  unfold kVal
  rw [kret (s1 := s) e]
  rfl
open DX in
/-- what is no list of names -/
theorem cols_bad {D : Dt} (bg : List Dt) (h : F_are_names [D, .int 3] bg = some (.bl false, bg)) : FX_all_columns [D] bg = some (.inr ⟨"InvalidColumns", []⟩, bg) := by
  let s : Sta := ⟨[dt D], bg⟩
  have c : mNotB (mB (mApp F_are_names (mCons (mVar 0) (mCons (mC c_MOST_COLUMNS) mNil)))) s = some (true, s) := by
    unfold mNotB
    rw [mBt (s1 := s) (b := false) (mapp (s1 := s) (ds := [D, .int 3]) rfl h)]
    rfl
  show (kSeqX _ _ s).bind _ = _
  unfold kSeqX kIfX
  rw [c]
  rfl
theorem many_bad {l : List Dt} (h : 3 < l.length) (bg : List Dt) : F_are_names [.lst l, .int 3] bg = some (.bl false, bg) := by
  let s : Sta := ⟨[dt (.lst l), dt (.int 3), none], bg⟩
  refine fnd (s1 := s) ?_
  show kSeq _ _ s = _
  unfold kSeq
  rw [kif_t (s1 := s) (or_f (s1 := s) rfl |>.trans (mBt (m2_eq (s1 := s) (s2 := s) (x := .int (l.length : Nat)) (y := .int 3) rfl rfl (by
    show some (Dt.bl (decide ((3 : Int) < (l.length : Nat)))) = _
    rw [decide_eq_true (by omega)]))))]
  rfl
/-- a few names that are not all different -/
theorem same_bad {ns : List Str} (hn : ∀ z ∈ ns, NameOk z) (hl : ns.length ≤ 3) (hc : SD.cnt ns ns.length ≠ ns.length) {D : Dt} (hD : D = .lst (ns.map Dt.str) ∨ D = .tup (ns.map Dt.str)) (bg : List Dt) : F_are_names [D, .int 3] bg = some (.bl false, bg) := by
  let s : Sta := ⟨[dt D, dt (.int 3), none], bg⟩
  have hlen : mCall gLen (mCons (mVar 0) mNil) s = some (.int (ns.length : Nat), s) := by
    have e : mCall gLen (mCons (mVar 0) mNil) s = some (Dt.int ((ns.map Dt.str).length : Nat), s) := by rcases hD with rfl | rfl <;> rfl
    rw [e, List.length_map]
  refine fnd (s1 := s) ?_
  show kSeq _ _ s = _
  rw [kseq (s1 := s)]
  · refine kret ?_
    rw [andV_t (s1 := s)]
    · refine m2_eq (s1 := s) (s2 := s) (x := .int (SD.cnt ns ns.length : Nat)) (y := .int (ns.length : Nat)) ?_ hlen (by
        rw [eqII]
        congr 2
        exact beq_eq_false_iff_ne.mpr fun z => hc (Int.ofNat_inj.mp z))
      have e : DJ.mLenSetR (mVar 0) s = (DT.txtsD (ns.map Dt.str)).bind fun zs => if zs.length ≤ 60 then some (.int (SD.cnt zs zs.length : Nat), s) else none := by rcases hD with rfl | rfl <;> rfl
      rw [e, txtsD_map]
      show (if ns.length ≤ 60 then _ else none) = _
      rw [if_pos (by omega)]
    · refine mcall (s1 := s) (l := [.lst ((ns.map Dt.str).map fun _ => .bl true)]) (mcons (s1 := s) (s2 := s) ?_ rfl) (gall_true _)
      refine mcomp (s1 := s) (l := ns.map Dt.str) (by rcases hD with rfl | rfl <;> rfl) (by rw [List.length_map]; omega) ?_
      refine comp_map (fun _ => .bl true) _ fun d hz => ?_
      obtain ⟨z, hz2, rfl⟩ := List.mem_map.mp hz
      let s2 : Sta := ⟨[dt D, dt (.int 3), dt (.str z)], bg⟩
      refine ⟨s2, s2, s2, rfl, rfl, ?_, rfl⟩
      rw [q_is_name]
      exact mapp (s1 := s2) (ds := [.str z]) rfl (is_name_ok (hn z hz2) bg)
  · rw [kif_f (s1 := s)]
    · rfl
    · rw [or_f (s1 := s) (by rcases hD with rfl | rfl <;> rfl)]
      refine mBt (m2_eq (s1 := s) (s2 := s) (x := .int (ns.length : Nat)) (y := .int 3) hlen rfl ?_)
      show some (Dt.bl (decide ((3 : Int) < (ns.length : Nat)))) = _
      rw [decide_eq_false (by omega)]
theorem cnt_two (x : Str) : SD.cnt [x, x] 2 ≠ 2 := by
  have e : SD.among [x, x] 1 x = true := by simp [SD.among]
  show (if SD.among [x, x] 1 x = true then SD.cnt [x, x] 1 else SD.cnt [x, x] 1 + 1) ≠ 2
  rw [if_pos e]
  have := SD.cnt_le [x, x] 1
  omega
theorem cnt_three (x y : Str) : SD.cnt [x, y, x] 3 ≠ 3 := by
  have e : SD.among [x, y, x] 2 x = true := by simp [SD.among]
  show (if SD.among [x, y, x] 2 x = true then SD.cnt [x, y, x] 2 else SD.cnt [x, y, x] 2 + 1) ≠ 3
  rw [if_pos e]
  have := SD.cnt_le [x, y, x] 2
  omega
theorem intsD_map : ∀ (l : List Int), DT.intsD (l.map Dt.int) = some l
  | [] => rfl
  | i :: l => by
    rw [List.map_cons]
    unfold DT.intsD
    rw [intsD_map l]
    rfl
theorem keyD_row (r : List Int) : DT.keyD (rowD r) = r := by
  show (DT.intsD (r.map Dt.int)).getD [] = r
  rw [intsD_map]
  rfl
/-- keys grow -/
abbrev Asc (rs : List (List Int)) : Prop := rs.Pairwise fun a b => a.headD 0 < b.headD 0
structure ColsOk (ns : List Str) : Prop where
  ok : ∀ z ∈ ns, NameOk z
  nd : ns.Nodup
  few : ns.length ≤ 3
theorem cut1 {a : Dt} {l : List Dt} : gSl (.tup (a :: l)) (some 1) none = some (.tup l) := by
  show some (Dt.tup (DL.cutD (a :: l) (some 1) none)) = _
  unfold DL.cutD
  have e1 : HT.sIx (a :: l).length 0 (some 1) = 1 := by unfold HT.sIx; simp
  have e2 : HT.sIx (a :: l).length (a :: l).length none = (a :: l).length := rfl
  rw [e1, e2]
  simp
theorem okD_row {r : List Int} (h : r.length ≤ 1000) (n : Nat) : okD (n + 2) (rowD r) = true := by
  unfold rowD okD
  rw [Bool.and_eq_true]
  refine ⟨by simpa using h, List.all_eq_true.mpr fun d hd => ?_⟩
  obtain ⟨i, _, rfl⟩ := List.mem_map.mp hd
  rfl
theorem okD_rows {rs : List (List Int)} (h : rs.length ≤ 1000) (hr : ∀ r ∈ rs, r.length ≤ 1000) (n : Nat) : okD (n + 3) (.lst (rs.map rowD)) = true := by
  unfold okD
  rw [Bool.and_eq_true]
  refine ⟨by simpa using h, List.all_eq_true.mpr fun d hd => ?_⟩
  obtain ⟨r, hq, rfl⟩ := List.mem_map.mp hd
  exact okD_row (hr r hq) n
theorem gne_refl {n : Nat} {d : Dt} (h : okD n d = true) (hn : n ≤ 64) : gNe d d = some (.bl false) := by
  have o := eqOk_of h hn
  have o2 := o
  unfold eqOk at o2
  rw [Bool.and_eq_true] at o2
  have e3 : eqD d d = true := PySem.SeqAt.eqv_refl _ (SeqAt.canLay_of_shaped o2.2)
  unfold gNe
  rw [o, if_pos (by rfl), e3]
  rfl
theorem q_pull : F_Lpull = sLpull := rfl
theorem q_any : F_Lany = sLany := rfl
theorem q_near : F_Lnear = sLnear := rfl
theorem q_names : F_Lnew_names = sLnew_names := rfl
def mxBody : DMs := (kDrop (DT.mInsert 2 (mApp F_Lpull (mCons (mVar 0) (mCons (m2 gAdd (mLenOwn 2) (mC (.int 1))) mNil))) (mVar 3)))
theorem mx_loop {x1 : Option Slo} : ∀ (l acc : List Dt) (x3 : Option Slo) (bg : List Dt), BagOk bg → acc.length + l.length ≤ 1000 →
    ∃ acc' x3' bg', loopD (hName 3) mxBody l ⟨[dt .bag, x1, some (.own acc), x3], bg⟩ = some (.nx, ⟨[dt .bag, x1, some (.own acc'), x3'], bg'⟩) ∧ acc'.Perm (l ++ acc) ∧ BagOk bg'
  | [], acc, x3, bg, hb, _ => ⟨acc, x3, bg, rfl, List.Perm.refl _, hb⟩
  | d :: l, acc, x3, bg, hb, hl => by
    rw [List.length_cons] at hl
    obtain ⟨r, bg1, e1, r0, r1, hb1⟩ := pull_ok hb (n := (acc.length : Nat) + 1) (by omega) (by omega)
    let s : Sta := ⟨[dt .bag, x1, some (.own acc), dt d], bg⟩
    let s1 : Sta := ⟨[dt .bag, x1, some (.own acc), dt d], bg1⟩
    let s2 : Sta := ⟨[dt .bag, x1, some (.own (acc.take r.toNat ++ [d] ++ acc.drop r.toNat)), dt d], bg1⟩
    have eb : mxBody s = some (.nx, s2) := by
      unfold mxBody kDrop DT.mInsert
      rw [q_pull, mapp (s1 := s) (ds := [.bag, .int ((acc.length : Nat) + 1)]) rfl e1]
      show (Option.bind (if acc.length < 100000 ∧ 0 ≤ r ∧ r < 1000000 then _ else none) _) = _
      rw [if_pos ⟨by omega, r0, by omega⟩]
      rfl
    obtain ⟨acc', x3', bg', e2, hp, hb'⟩ := mx_loop (x1 := x1) l (acc.take r.toNat ++ [d] ++ acc.drop r.toNat) (dt d) bg1 hb1 (by simp; omega)
    refine ⟨acc', x3', bg', ?_, hp.trans ?_, hb'⟩
    · unfold loopD
      show (mxBody s).bind _ = _
      rw [eb]
      exact e2
    · have h1 : (acc.take r.toNat ++ [d] ++ acc.drop r.toNat).Perm (d :: acc) := by
        rw [List.append_assoc]
        refine List.perm_middle.trans ?_
        show (d :: (acc.take r.toNat ++ acc.drop r.toNat)).Perm (d :: acc)
        rw [List.take_append_drop]
      exact (List.Perm.append_left l h1).trans List.perm_middle
theorem mixed_ok {l : List Dt} {bg : List Dt} (hb : BagOk bg) (hl : l.length ≤ 1000) : ∃ l' bg', F_Lmixed [.bag, .lst l] bg = some (.lst l', bg') ∧ l'.Perm l ∧ BagOk bg' := by
  obtain ⟨acc', x3', bg', e, hp, hb'⟩ := mx_loop (x1 := dt (.lst l)) l [] none bg hb (by simpa using hl)
  refine ⟨acc', bg', ?_, by simpa using hp, hb'⟩
  let s0 : Sta := ⟨[dt .bag, dt (.lst l), none, none], bg⟩
  let s1 : Sta := ⟨[dt .bag, dt (.lst l), some (.own []), none], bg⟩
  let s2 : Sta := ⟨[dt .bag, dt (.lst l), some (.own acc'), x3'], bg'⟩
  let s3 : Sta := ⟨[dt .bag, dt (.lst l), dt (.lst acc'), x3'], bg'⟩
  refine fnd (s1 := s3) ?_
  show kSeq _ _ s0 = _
  rw [kseq (s1 := s1) rfl, kseq (s1 := s2)]
  · exact kret (s1 := s3) rfl
  · exact e
def cellF : DM Dt := (mIf (mB (m2 oGt (mApp F_Lpull (mCons (mVar 0) (mCons (mC (.int 3)) mNil))) (mC (.int 0)))) (m2 gAdd (mVar 4) (mApp F_Lnear (mCons (mVar 0) mNil))) (mApp F_Lnear (mCons (mVar 0) mNil)))
theorem cell_ok {x1 x2 x3 x5 x6 : Option Slo} {k : Int} {bg : List Dt} (hb : BagOk bg) : ∃ i bg', cellF ⟨[dt .bag, x1, x2, x3, dt (.int k), x5, x6], bg⟩ = some (.int i, ⟨[dt .bag, x1, x2, x3, dt (.int k), x5, x6], bg'⟩) ∧ BagOk bg' := by
  obtain ⟨r, bg1, e1, r0, r1, hb1⟩ := pull_ok hb (n := 3) (by decide) (by decide)
  obtain ⟨i, bg2, e2, _, _, hb2⟩ := near_ok hb1
  let s : Sta := ⟨[dt .bag, x1, x2, x3, dt (.int k), x5, x6], bg⟩
  let s1 : Sta := ⟨[dt .bag, x1, x2, x3, dt (.int k), x5, x6], bg1⟩
  let s2 : Sta := ⟨[dt .bag, x1, x2, x3, dt (.int k), x5, x6], bg2⟩
  have en : mApp F_Lnear (mCons (mVar 0) mNil) s1 = some (.int i, s2) := by
    rw [q_near]
    exact mapp (s1 := s1) (ds := [.bag]) rfl e2
  have ec : mB (m2 oGt (mApp F_Lpull (mCons (mVar 0) (mCons (mC (.int 3)) mNil))) (mC (.int 0))) s = some (decide (0 < r), s1) := by
    rw [q_pull]
    exact mBt (m2_eq (s1 := s1) (s2 := s1) (x := .int r) (y := .int 0) (mapp (s1 := s) (ds := [.bag, .int 3]) rfl e1) rfl rfl)
  by_cases c : 0 < r
  · refine ⟨k + i, bg2, ?_, hb2⟩
    unfold cellF mIf
    show ((mB _ s).bind _) = _
    rw [ec, decide_eq_true c]
    show m2 gAdd (mVar 4) (mApp F_Lnear (mCons (mVar 0) mNil)) s1 = _
    exact m2_eq (s1 := s1) (s2 := s2) (x := .int k) (y := .int i) rfl en rfl
  · refine ⟨i, bg2, ?_, hb2⟩
    unfold cellF mIf
    show ((mB _ s).bind _) = _
    rw [ec, decide_eq_false c]
    show mApp F_Lnear (mCons (mVar 0) mNil) s1 = _
    exact en
def rwBody : DMs := (kSeq (kAsg (m2 gAdd (m2 gAdd (mVar 4) (mC (.int 1))) (mApp F_Lany (mCons (mVar 0) (mCons (mLst (mCons (mC (.int 0)) (mCons (mC (.int 0)) (mCons (mC (.int 1)) (mCons (mC (.int 2)) mNil))))) mNil)))) (hName 4))
    (kDrop (mAppend 5 (DT.mTupOf (m2 gAdd (mLst (mCons (mVar 4) mNil)) (mComp [6] (wTup (mSl (mVar 1) (mPart (mC (.int 1))) mNoP)) (hName 6) mYes cellF))))))
theorem ints_ex {l : List Dt} (h : ∀ r ∈ l, ∃ i, r = Dt.int i) : ∃ is : List Int, l = is.map Dt.int := by
  induction l with
  | nil => exact ⟨[], rfl⟩
  | cons d l ih =>
    obtain ⟨i, rfl⟩ := h d (List.mem_cons_self ..)
    obtain ⟨is, rfl⟩ := ih fun r hr => h r (List.mem_cons_of_mem _ hr)
    exact ⟨i :: is, rfl⟩
theorem rw_turn {ns : List Str} (hf : ns.length ≤ 3) {x2 x3 x6 : Option Slo} {k : Int} {acc : List (List Int)} {bg : List Dt} (hb : BagOk bg) (hl : acc.length ≤ 1000) : ∃ (k' : Int) (r : List Int) (bg' : List Dt),
    rwBody ⟨[dt .bag, dt (colsD ns), x2, x3, dt (.int k), some (.own (acc.map rowD)), x6], bg⟩ = some (.nx, ⟨[dt .bag, dt (colsD ns), x2, x3, dt (.int k'), some (.own ((acc ++ [r]).map rowD)), x6], bg'⟩) ∧ k < k' ∧ k' ≤ k + 3 ∧ r.headD 0 = k' ∧ r.length = ns.length + 1 ∧ BagOk bg' := by
  obtain ⟨d, bg1, e1, hd, hb1⟩ := any_ok hb (rows := [.int 0, .int 0, .int 1, .int 2]) (by decide) (by decide)
  obtain ⟨j, rfl, hj, hj2⟩ : ∃ j : Int, d = .int j ∧ 0 ≤ j ∧ j ≤ 2 := by
    simp only [List.mem_cons, List.not_mem_nil, or_false] at hd
    rcases hd with rfl | rfl | rfl | rfl <;> exact ⟨_, rfl, by decide, by decide⟩
  obtain ⟨rs, bg2, e2, l2, p2, hb2⟩ := comp_all (sl0 := [dt .bag, dt (colsD ns), (datOnly x2), (datOnly x3), dt (.int (k + 1 + j)), none, none]) (h := hName 6) (t := mYes) (e := cellF) (fun _ => True) (fun d => ∃ i, d = .int i) (fun d bg _ hb => by
    obtain ⟨i, bg', e, hb'⟩ := cell_ok (x1 := dt (colsD ns)) (x2 := (datOnly x2)) (x3 := (datOnly x3)) (x5 := none) (x6 := dt d) (k := k + 1 + j) hb
    exact ⟨_, _, .int i, _, rfl, rfl, e, ⟨i, rfl⟩, hb'⟩) (ns.map Dt.str) bg1 (fun _ _ => trivial) hb1
  rw [List.length_map] at l2
  obtain ⟨is, rfl⟩ := ints_ex p2
  rw [List.length_map] at l2
  let s : Sta := ⟨[dt .bag, dt (colsD ns), x2, x3, dt (.int k), some (.own (acc.map rowD)), x6], bg⟩
  let s' : Sta := ⟨[dt .bag, dt (colsD ns), x2, x3, dt (.int k), some (.own (acc.map rowD)), x6], bg1⟩
  let sA : Sta := ⟨[dt .bag, dt (colsD ns), x2, x3, dt (.int (k + 1 + j)), some (.own (acc.map rowD)), x6], bg1⟩
  let sB : Sta := ⟨[dt .bag, dt (colsD ns), x2, x3, dt (.int (k + 1 + j)), some (.own (acc.map rowD)), x6], bg2⟩
  refine ⟨k + 1 + j, (k + 1 + j) :: is, bg2, ?_, by omega, by omega, rfl, by rw [List.length_cons, l2], hb2⟩
  unfold rwBody
  show kSeq _ _ s = _
  rw [kseq (s1 := sA)]
  · unfold kDrop mAppend
    have e3 : mComp [6] (wTup (mSl (mVar 1) (mPart (mC (.int 1))) mNoP)) (hName 6) mYes cellF sA = some (.lst (is.map Dt.int), sB) := by
      refine mcomp (s1 := sA) (l := ns.map Dt.str) ?_ (by rw [List.length_map]; omega) e2
      unfold wTup
      rw [msl (s1 := sA) (s2 := sA) (s3 := sA) (x := colsD ns) rfl rfl rfl cut1]
      rfl
    have e4 : DT.mTupOf (m2 gAdd (mLst (mCons (mVar 4) mNil)) (mComp [6] (wTup (mSl (mVar 1) (mPart (mC (.int 1))) mNoP)) (hName 6) mYes cellF)) sA = some (rowD ((k + 1 + j) :: is), sB) := by
      unfold DT.mTupOf
      rw [m2_eq (s1 := sA) (s2 := sB) (x := .lst [.int (k + 1 + j)]) (y := .lst (is.map Dt.int)) (d := .lst ([.int (k + 1 + j)] ++ is.map Dt.int)) rfl e3 (gaddL (by rw [List.length_map, l2]; simp; omega))]
      rfl
    rw [e4]
    show (Option.bind (if (acc.map rowD).length < 100000 then _ else none) _) = _
    rw [if_pos (by rw [List.length_map]; omega), List.map_append]
    rfl
  · refine kasg (s1 := s') (d := .int (k + 1 + j)) ?_ rfl
    refine m2_eq (s1 := s) (s2 := s') (x := .int (k + 1)) (y := .int j) rfl ?_ rfl
    rw [q_any]
    exact mapp (s1 := s) (ds := [.bag, .lst [.int 0, .int 0, .int 1, .int 2]]) rfl e1
theorem rw_loop {b0 : Int} {ns : List Str} (hf : ns.length ≤ 3) {x2 x6 : Option Slo} : ∀ (l : List Dt) (acc : List (List Int)) (k : Int) (x3 : Option Slo) (bg : List Dt), BagOk bg → acc.length + l.length ≤ 1000 → Asc acc → (∀ r ∈ acc, b0 ≤ r.headD 0 ∧ r.headD 0 ≤ k) → b0 ≤ k → (∀ r ∈ acc, r.length = ns.length + 1) →
    ∃ (acc' : List (List Int)) (k' : Int) (x3' : Option Slo) (bg' : List Dt), loopD (hName 3) rwBody l ⟨[dt .bag, dt (colsD ns), x2, x3, dt (.int k), some (.own (acc.map rowD)), x6], bg⟩ = some (.nx, ⟨[dt .bag, dt (colsD ns), x2, x3', dt (.int k'), some (.own (acc'.map rowD)), x6], bg'⟩) ∧
      Asc acc' ∧ acc'.length = acc.length + l.length ∧ (∀ r ∈ acc', r.length = ns.length + 1) ∧ (∀ r ∈ acc', b0 ≤ r.headD 0 ∧ r.headD 0 ≤ k') ∧ k' ≤ k + 3 * (l.length : Nat) ∧ BagOk bg'
  | [], acc, k, x3, bg, hb, _, ha, hk, _, hr => ⟨acc, k, x3, bg, rfl, ha, rfl, hr, hk, by simp, hb⟩
  | d :: l, acc, k, x3, bg, hb, hl, ha, hk, hk0, hr => by
    rw [List.length_cons] at hl
    obtain ⟨k1, r, bg1, e1, hk1, hk2, hh, hlen, hb1⟩ := rw_turn (ns := ns) hf (x2 := x2) (x3 := dt d) (x6 := x6) (k := k) (acc := acc) hb (by omega)
    obtain ⟨acc', k', x3', bg', e2, h1, h2, h3, h5, h6, h4⟩ := rw_loop (b0 := b0) hf (x2 := x2) (x6 := x6) l (acc ++ [r]) k1 (dt d) bg1 hb1 (by rw [List.length_append]; simp; omega)
      (List.pairwise_append.mpr ⟨ha, List.pairwise_singleton .., fun a h b h' => by
        rw [List.mem_singleton.mp h']
        have := hk a h
        omega⟩)
      (fun q hq => by
        rcases List.mem_append.mp hq with h | h
        · have := hk q h; omega
        · rw [List.mem_singleton.mp h]; omega) (by omega)
      (fun q hq => by
        rcases List.mem_append.mp hq with h | h
        · exact hr q h
        · rw [List.mem_singleton.mp h]; exact hlen)
    refine ⟨acc', k', x3', bg', ?_, h1, ?_, h3, h5, by rw [List.length_cons]; omega, h4⟩
    · unfold loopD
      show (rwBody ⟨[dt .bag, dt (colsD ns), x2, dt d, dt (.int k), some (.own (acc.map rowD)), x6], bg⟩).bind _ = _
      rw [e1]
      exact e2
    · rw [h2, List.length_append, List.length_cons]; simp; omega
theorem rows_draw {ns : List Str} (hf : ns.length ≤ 3) {mo : Nat} (hmo : mo ≤ 6) {bg : List Dt} (hb : BagOk bg) : ∃ (rs : List (List Int)) (bg' : List Dt), F_Lrows [.bag, colsD ns, .int (mo : Nat)] bg = some (.lst (rs.map rowD), bg') ∧ Asc rs ∧ rs.length ≤ 6 ∧ (∀ r ∈ rs, r.length = ns.length + 1) ∧ (∀ r ∈ rs, -4 ≤ r.headD 0 ∧ r.headD 0 ≤ 30) ∧ BagOk bg' := by
  obtain ⟨i, bg1, e1, i0, i1, hb1⟩ := near_ok hb
  obtain ⟨m, bg2, e2, m0, m1, hb2⟩ := pull_ok hb1 (n := ((mo : Nat) : Int) + 1) (by omega) (by omega)
  obtain ⟨rs, k', x3', bg3, e3, h1, h2, h3, h5, h6, h4⟩ := rw_loop (b0 := i - 2) (ns := ns) hf (x2 := dt (.int (mo : Nat))) (x6 := none) (rngD 0 m.toNat) [] (i - 2) none bg2 hb2 (by rw [rng_len]; simp; omega) List.Pairwise.nil (fun _ h => (List.not_mem_nil h).elim) (Int.le_refl _) (fun _ h => (List.not_mem_nil h).elim)
  rw [rng_len] at h2 h6
  refine ⟨rs, bg3, ?_, h1, by simp at h2; omega, h3, fun r hr => by have := h5 r hr; omega, h4⟩
  let s0 : Sta := ⟨[dt .bag, dt (colsD ns), dt (.int (mo : Nat)), none, none, none, none], bg⟩
  let s0' : Sta := ⟨[dt .bag, dt (colsD ns), dt (.int (mo : Nat)), none, none, none, none], bg1⟩
  let s1 : Sta := ⟨[dt .bag, dt (colsD ns), dt (.int (mo : Nat)), none, dt (.int (i - 2)), some (.own []), none], bg1⟩
  let s2 : Sta := ⟨[dt .bag, dt (colsD ns), dt (.int (mo : Nat)), x3', dt (.int k'), some (.own (rs.map rowD)), none], bg3⟩
  let s3 : Sta := ⟨[dt .bag, dt (colsD ns), dt (.int (mo : Nat)), x3', dt (.int k'), dt (.lst (rs.map rowD)), none], bg3⟩
  refine fnd (s1 := s3) ?_
  show kSeq _ _ s0 = _
  rw [kseq (s1 := s1), kseq (s1 := s2)]
  · exact kret (s1 := s3) rfl
  · unfold kFor
    rw [mrng1 (s1 := ⟨[dt .bag, dt (colsD ns), dt (.int (mo : Nat)), none, dt (.int (i - 2)), some (.own []), none], bg2⟩) (j := m) ?_ m0 (by omega)]
    · exact e3
    · refine mcons (s1 := ⟨[dt .bag, dt (colsD ns), dt (.int (mo : Nat)), none, dt (.int (i - 2)), some (.own []), none], bg2⟩) ?_ rfl
      rw [q_pull]
      exact mapp (s1 := s1) (ds := [.bag, .int (((mo : Nat) : Int) + 1)]) (mcons (s1 := s1) rfl (mcons (s1 := s1) (m2_eq (s1 := s1) (s2 := s1) (x := .int (mo : Nat)) (y := .int 1) rfl rfl rfl) rfl)) e2
  · unfold kParOwn
    rw [q_near, m2_eq (s1 := s0') (s2 := s0') (x := .int i) (y := .int 2) (d := .int (i - 2)) (mapp (s1 := s0) (ds := [.bag]) rfl e1) rfl rfl]
    rfl
theorem perm_rows {rs : List (List Int)} {l : List Dt} (h : l.Perm (rs.map rowD)) : ∃ qs : List (List Int), l = qs.map rowD ∧ qs.Perm rs := by
  have hk : ∀ d ∈ l, rowD (DT.keyD d) = d := fun d hd => by
    obtain ⟨r, _, rfl⟩ := List.mem_map.mp (h.mem_iff.mp hd)
    rw [keyD_row]
  refine ⟨l.map DT.keyD, ?_, ?_⟩
  · rw [List.map_map]
    conv => lhs; rw [← List.map_id l]
    exact List.map_congr_left fun d hd => (hk d hd).symm
  · have h2 := h.map DT.keyD
    have e : (rs.map rowD).map DT.keyD = rs := by
      rw [List.map_map]
      conv => rhs; rw [← List.map_id rs]
      exact List.map_congr_left fun r _ => keyD_row r
    rw [e] at h2
    exact h2
open DX in
def ckBodyX : DMsX := (kSeqX (kIfX (mOrB (mNotB (mB (mApp F_is_row_ (mCons (mVar 5) (mCons (mVar 1) mNil))))) (mB (mInO 3 (m2 gIx (mVar 5) (mC (.int 0)))))) (kRaiseF "InvalidRow" "index" (mVar 4)) (kVal kSkip))
    (kVal (kPutO 3 (m2 gIx (mVar 5) (mC (.int 0))) (mC (.bl true)))))
open DX in
/-- good rows, then a bad thing: None, or a row whose key is there already -/
theorem ck_loopX {n : Nat} (h0 : 0 < n) (h1 : n ≤ 1000) {a c x6 : Option Slo} {bg : List Dt} {bad : Dt} {rest : List Dt} : ∀ (rs : List (List Int)) (i : Nat) (ks : List Key) (l : List Dt) (x4 x5 : Option Slo), ks.length = l.length → ks.length + rs.length ≤ 1000 →
    (∀ r ∈ rs, r.length = n) → (∀ r ∈ rs, hasK ks (.inl (r.headD 0)) = false) → rs.Pairwise (fun a b => a.headD 0 ≠ b.headD 0) →
    ((∀ bg, F_is_row_ [bad, .int n] bg = some (.bl false, bg)) ∨ ∃ q : List Int, bad = rowD q ∧ q.length = n ∧ (hasK ks (.inl (q.headD 0)) = true ∨ ∃ r ∈ rs, r.headD 0 = q.headD 0)) →
    ∃ s', loopX ckTgt ckBodyX (DT.enumD i (rs.map rowD ++ bad :: rest)) ⟨[a, dt (.int n), c, some (.mut (some ks) l), x4, x5, x6], bg⟩ = some (.ex ⟨"InvalidRow", [("index", .int (i + rs.length : Nat))]⟩, s') ∧ s'.bag = bg
  | [], i, ks, l, x4, x5, hl, _, _, _, _, hbad => by
    let s : Sta := ⟨[a, dt (.int n), c, some (.mut (some ks) l), dt (.int (i : Nat)), dt bad, x6], bg⟩
    refine ⟨s, ?_, rfl⟩
    have ec : mOrB (mNotB (mB (mApp F_is_row_ (mCons (mVar 5) (mCons (mVar 1) mNil))))) (mB (mInO 3 (m2 gIx (mVar 5) (mC (.int 0))))) s = some (true, s) := by
      rcases hbad with hno | ⟨q, rfl, hq, h2⟩
      · refine or_t ?_
        unfold mNotB
        rw [mBt (s1 := s) (b := false) (mapp (s1 := s) (ds := [bad, .int n]) rfl (hno bg))]
        rfl
      · have e1 : mNotB (mB (mApp F_is_row_ (mCons (mVar 5) (mCons (mVar 1) mNil)))) s = some (false, s) := by
          unfold mNotB
          rw [mBt (s1 := s) (b := true) (mapp (s1 := s) (ds := [rowD q, .int n]) rfl (is_row_ok hq h1 bg))]
          rfl
        rw [or_f e1]
        refine mBt ?_
        unfold mInO
        rw [m2_eq (s1 := s) (s2 := s) (x := rowD q) (y := .int 0) (d := .int (q.headD 0)) rfl rfl (head_ix (by omega))]
        show (if ks.length = l.length then _ else none) = _
        rw [if_pos hl]
        rcases h2 with h2 | ⟨r, hr, _⟩
        · rw [h2]
        · cases hr
    unfold DT.enumD loopX
    show (ckBodyX s).bind _ = _
    unfold ckBodyX kSeqX kIfX
    rw [ec]
    rfl
  | r :: rs, i, ks, l, x4, x5, hl, hn, hr, hf, hp, hbad => by
    obtain ⟨hp1, hp2⟩ := List.pairwise_cons.mp hp
    rw [List.length_cons] at hn
    have hlen := hr r (List.mem_cons_self ..)
    let s : Sta := ⟨[a, dt (.int n), c, some (.mut (some ks) l), dt (.int (i : Nat)), dt (rowD r), x6], bg⟩
    let s2 : Sta := ⟨[a, dt (.int n), c, some (.mut (some (putKs ks (.inl (r.headD 0)))) (putLs ks l (.inl (r.headD 0)) (.bl true))), dt (.int (i : Nat)), dt (rowD r), x6], bg⟩
    have hx : m2 gIx (mVar 5) (mC (.int 0)) s = some (.int (r.headD 0), s) := m2_eq (s1 := s) (s2 := s) (x := rowD r) (y := .int 0) rfl rfl (head_ix (by omega))
    have ec : mOrB (mNotB (mB (mApp F_is_row_ (mCons (mVar 5) (mCons (mVar 1) mNil))))) (mB (mInO 3 (m2 gIx (mVar 5) (mC (.int 0))))) s = some (false, s) := by
      have e1 : mNotB (mB (mApp F_is_row_ (mCons (mVar 5) (mCons (mVar 1) mNil)))) s = some (false, s) := by
        unfold mNotB
        rw [mBt (s1 := s) (b := true) (mapp (s1 := s) (ds := [rowD r, .int n]) rfl (is_row_ok hlen h1 bg))]
        rfl
      rw [or_f e1]
      refine mBt ?_
      unfold mInO
      rw [hx]
      show (if ks.length = l.length then _ else none) = _
      rw [if_pos hl, hf r (List.mem_cons_self ..)]
    have ep : kPutO 3 (m2 gIx (mVar 5) (mC (.int 0))) (mC (.bl true)) s = some (.nx, s2) := by
      unfold kPutO
      show (m2 gIx (mVar 5) (mC (.int 0)) s).bind _ = _
      rw [hx]
      show (if ks.length = l.length ∧ ks.length < 100000 then _ else none) = _
      rw [if_pos ⟨hl, by omega⟩]
      rfl
    have eb : ckBodyX s = some (.nx, s2) := by
      unfold ckBodyX kSeqX kIfX
      rw [ec]
      show kVal (kPutO 3 (m2 gIx (mVar 5) (mC (.int 0))) (mC (.bl true))) s = _
      unfold kVal
      rw [ep]
      rfl
    obtain ⟨s', e1, e2⟩ := ck_loopX h0 h1 (a := a) (c := c) (x6 := x6) (bg := bg) (bad := bad) (rest := rest) rs (i + 1) (putKs ks (.inl (r.headD 0))) (putLs ks l (.inl (r.headD 0)) (.bl true)) (dt (.int (i : Nat))) (dt (rowD r)) (putKs_len hl)
      (by have := putKs_le (ks := ks) (k := .inl (r.headD 0)); omega) (fun z hz => hr z (List.mem_cons_of_mem _ hz))
      (fun z hz => by
        rw [hasK_put, hf z (List.mem_cons_of_mem _ hz), Bool.false_or]
        exact decide_eq_false fun e => hp1 z hz (Sum.inl.inj e)) hp2
      (by
        rcases hbad with h | ⟨q, h, hq, h2⟩
        · exact .inl h
        · refine .inr ⟨q, h, hq, ?_⟩
          rcases h2 with h2 | ⟨z, hz, e⟩
          · left; rw [hasK_put, h2]; rfl
          · rcases List.mem_cons.mp hz with rfl | hz
            · left; rw [hasK_put, e]; simp
            · exact .inr ⟨z, hz, e⟩)
    refine ⟨s', ?_, e2⟩
    rw [List.map_cons, List.cons_append, List.length_cons, show i + (rs.length + 1) = i + 1 + rs.length by omega]
    unfold DT.enumD loopX
    show (ckBodyX s).bind _ = _
    rw [eb]
    exact e1
open DX in
theorem sq_nx {f g : DMsX} {s s1 : Sta} (h : f s = some (.nx, s1)) : kSeqX f g s = g s1 := by unfold kSeqX; rw [h]; rfl
open DX in
theorem sq_ex {f g : DMsX} {s s1 : Sta} {e : Er} (h : f s = some (.ex e, s1)) : kSeqX f g s = some (.ex e, s1) := by unfold kSeqX; rw [h]; rfl
open DX in
theorem checked_bad {n : Nat} {tk : List Int} {rs : List (List Int)} {bad : Dt} {rest : List Dt} (h0 : 0 < n) (h1 : n ≤ 1000) (h : RowsOk n tk rs) (hl : tk.length + rs.length ≤ 1000) (bg : List Dt)
    (hb : (∀ bg, F_is_row_ [bad, .int n] bg = some (.bl false, bg)) ∨ ∃ q : List Int, bad = rowD q ∧ q.length = n ∧ (q.headD 0 ∈ tk ∨ ∃ r ∈ rs, r.headD 0 = q.headD 0)) :
    FX_checked_rows_ [.lst (rs.map rowD ++ bad :: rest), .int n, .lst (tk.map Dt.int)] bg = some (.inr ⟨"InvalidRow", [("index", .int (rs.length : Nat))]⟩, bg) := by
  let R : Dt := .lst (rs.map rowD ++ bad :: rest)
  obtain ⟨ks, l, e1, e2, e3, e4⟩ := taken_ok (sl0 := [dt R, dt (.int n), dt (.lst (tk.map Dt.int)), none, none, none, none]) rfl (bg := bg) tk [] [] rfl (by simp; omega)
  let s0 : Sta := ⟨[dt R, dt (.int n), dt (.lst (tk.map Dt.int)), none, none, none, none], bg⟩
  let s1 : Sta := ⟨[dt R, dt (.int n), dt (.lst (tk.map Dt.int)), some (.mut (some ks) l), none, none, none], bg⟩
  obtain ⟨s', f1, f2⟩ := ck_loopX h0 h1 (a := dt R) (c := dt (.lst (tk.map Dt.int))) (x6 := none) (bg := bg) (bad := bad) (rest := rest) rs 0 ks l none none e2 (by simp at e3; omega) h.len (fun r hr => by
    rw [e4]
    have : ¬ ∃ i ∈ tk, (Sum.inl (r.headD 0) : Key) = Sum.inl i := fun ⟨i, hi, e⟩ => h.fresh r hr (Sum.inl.inj e ▸ hi)
    rw [decide_eq_false this]
    rfl) h.diff (by
    rcases hb with h | ⟨q, h, hq, h2⟩
    · exact .inl h
    · refine .inr ⟨q, h, hq, h2.imp (fun h => ?_) id⟩
      rw [e4, decide_eq_true ⟨_, h, rfl⟩, Bool.or_true])
  rw [Nat.zero_add] at f1
  have eD : kOwnDC 3 [6] (wLst (mVar 2)) (hName 6) mYes (mVar 6) (mC (.bl true)) s0 = some (.nx, s1) := by
    unfold kOwnDC
    show (compDD [dt R, dt (.int n), dt (.lst (tk.map Dt.int)), none, none, none, none] (hName 6) mYes (mVar 6) (mC (.bl true)) (tk.map Dt.int) ([], []) bg).bind _ = _
    rw [e1]
    rfl
  have e : FX_checked_rows_ [R, .int n, .lst (tk.map Dt.int)] bg = some (.inr ⟨"InvalidRow", [("index", .int (rs.length : Nat))]⟩, s'.bag) := by
    show (kSeqX _ _ s0).bind _ = _
    rw [sq_nx (s1 := s0) rfl, sq_nx (s1 := s1), sq_ex (s1 := s') (e := ⟨"InvalidRow", [("index", .int (rs.length : Nat))]⟩)]
    · rfl
    · exact f1
    · unfold kVal
      rw [eD]
      rfl
  rw [show (Dt.lst (rs.map rowD ++ bad :: rest)) = R from rfl, e, f2]
theorem bools_p (p : Dt → Bool) : ∀ (l : List Dt), bools (l.map fun d => Dt.bl (p d)) = some (l.map p)
  | [] => rfl
  | a :: l => by
    rw [List.map_cons]
    unfold bools
    rw [bools_p p l]
    rfl
theorem gall_p (p : Dt → Bool) (l : List Dt) : gAll [.lst (l.map fun d => Dt.bl (p d))] = some (.bl (l.all p)) := by
  show (bools (l.map fun d => Dt.bl (p d))).bind _ = _
  rw [bools_p, Option.bind_some, List.all_map]
  rfl
theorem names_bad {l : List Dt} (p : Dt → Bool) (h : ∀ d ∈ l, ∀ bg, F_is_name [d] bg = some (.bl (p d), bg)) (hl : l.length ≤ 3) (hx : l.all p = false) (bg : List Dt) : F_are_names [.lst l, .int 3] bg = some (.bl false, bg) := by
  let s : Sta := ⟨[dt (.lst l), dt (.int 3), none], bg⟩
  refine fnd (s1 := s) ?_
  show kSeq _ _ s = _
  rw [kseq (s1 := s)]
  · refine kret (andV_f (s1 := s) ?_)
    rw [← hx]
    refine mcall (s1 := s) (l := [.lst (l.map fun d => Dt.bl (p d))]) (mcons (s1 := s) (s2 := s) ?_ rfl) (gall_p p l)
    refine mcomp (s1 := s) (l := l) rfl (by omega) ?_
    refine comp_map (fun d => Dt.bl (p d)) _ fun d hd => ?_
    let s2 : Sta := ⟨[dt (.lst l), dt (.int 3), dt d], bg⟩
    exact ⟨s2, s2, s2, rfl, rfl, mapp (s1 := s2) (ds := [d]) rfl (h d hd bg), rfl⟩
  · rw [kif_f (s1 := s)]
    · rfl
    · rw [or_f (s1 := s) rfl]
      refine mBt (m2_eq (s1 := s) (s2 := s) (x := .int (l.length : Nat)) (y := .int 3) rfl rfl ?_)
      show some (Dt.bl (decide ((3 : Int) < (l.length : Nat)))) = _
      rw [decide_eq_false (by omega)]
def wrongsD (z0 z1 z2 z3 : Str) : List Dt := [.lst [.str z0, .str z1, .str z2, .str z3], .lst [.str z0, .str z0], .lst [.str z0, .str "key"], .lst [.str "A"], .non, .int 3, .str z0, .lst [.non], .lst [.str "own"], .lst [.str ""], .lst [.str z1, .str z0, .str z1], .lst [.tup [.str "a"]], .lst [.str "abcdefg"]]
theorem wrong_bad {z0 z1 z2 z3 : Str} (h0 : NameOk z0) (h1 : NameOk z1) {w : Dt} (hw : w ∈ wrongsD z0 z1 z2 z3) (bg : List Dt) : F_are_names [w, .int 3] bg = some (.bl false, bg) := by
  unfold wrongsD at hw
  simp only [List.mem_cons, List.not_mem_nil, or_false] at hw
  have one : ∀ d : Dt, (∀ bg, F_is_name [d] bg = some (.bl false, bg)) → F_are_names [.lst [d], .int 3] bg = some (.bl false, bg) := fun d h => names_bad (fun _ => false) (fun e he => by rw [List.mem_singleton.mp he]; exact h) (by show 1 ≤ 3; decide) rfl bg
  rcases hw with rfl | rfl | rfl | rfl | rfl | rfl | rfl | rfl | rfl | rfl | rfl | rfl | rfl
  · exact many_bad (by show 3 < 4; decide) bg
  · exact same_bad (ns := [z0, z0]) (fun z hz => by simp at hz; rw [hz]; exact h0) (by show 2 ≤ 3; decide) (cnt_two z0) (.inl rfl) bg
  · refine names_bad (fun d => match d with | .str y => !(y == ("key" : Str)) | _ => false) (fun d hd bg => ?_) (by show 2 ≤ 3; decide) (by
      show ((!(z0 == ("key" : Str))) && ((!(("key" : Str) == ("key" : Str))) && true)) = false
      rw [beq_self_eq_true]
      simp) bg
    simp only [List.mem_cons, List.not_mem_nil, or_false] at hd
    rcases hd with rfl | rfl
    · have hne : (z0 == ("key" : Str)) = false := beq_eq_false_iff_ne.mpr fun e => h0.free (by rw [e]; simp [resv])
      show F_is_name [.str z0] bg = some (.bl (!(z0 == ("key" : Str))), bg)
      rw [hne, q_is_name]
      exact is_name_ok h0 bg
    · rfl
  · exact one _ fun _ => rfl
  · rfl
  · rfl
  · rfl
  · exact one _ fun _ => rfl
  · exact one _ fun _ => rfl
  · exact one _ fun _ => rfl
  · exact same_bad (ns := [z1, z0, z1]) (fun z hz => by
      simp at hz
      rcases hz with rfl | rfl | rfl
      · exact h1
      · exact h0
      · exact h1) (by show 3 ≤ 3; decide) (cnt_three z1 z0) (.inl rfl) bg
  · exact one _ fun _ => rfl
  · exact one _ fun _ => rfl
section
open DX
variable {w : Dt} (h : ∀ bg, F_are_names [w, .int 3] bg = some (.bl false, bg)) (bg : List Dt)
include h
theorem fld_bad {c : Str} {x2 x3 : List (Option Slo)} : DJ.kFldX 0 c "_columns" (mAppX FX_all_columns (mCons (mVar 1) mNil)) ⟨some (.obj c [] []) :: dt w :: x2, bg⟩ = some (.ex ⟨"InvalidColumns", []⟩, ⟨some (.obj c [] []) :: dt w :: x2, bg⟩) := by
  unfold DJ.kFldX mAppX
  show (Option.bind (Option.bind (FX_all_columns [w] bg) _) _) = _
  rw [show FX_all_columns [w] bg = _ from cols_bad bg (h bg)]
  rfl
theorem tab_bad (r : Dt) : FX_Table_M__init__ [w, r] bg = some (⟨"InvalidColumns", []⟩, bg) := by
  show (kSeqX _ _ ⟨some (.obj "Table" [] []) :: dt w :: [dt r], bg⟩).bind _ = _
  rw [sq_ex (fld_bad h bg (x3 := []))]
  rfl
theorem proc_bad (a b : Dt) : FX_Procedure_M__init__ [w, a, b] bg = some (⟨"InvalidColumns", []⟩, bg) := by
  show (kSeqX _ _ ⟨some (.obj "Procedure" [] []) :: dt w :: [dt a, dt b], bg⟩).bind _ = _
  rw [sq_ex (fld_bad h bg (x3 := []))]
  rfl
theorem rules_bad (a b : Dt) : FX_Rules_M__init__ [w, a, b] bg = some (⟨"InvalidColumns", []⟩, bg) := by
  show (kSeqX _ _ ⟨some (.obj "Rules" [] []) :: dt w :: [dt a, dt b, none], bg⟩).bind _ = _
  rw [sq_ex (fld_bad h bg (x3 := []))]
  rfl
end
open DX in
theorem tab_row {ns : List Str} (hc : ColsOk ns) {D : Dt} (hD : D = .lst (ns.map Dt.str) ∨ D = .tup (ns.map Dt.str)) {rs : List (List Int)} {bad : Dt} {rest : List Dt} (h : RowsOk (ns.length + 1) [] rs) (hl : rs.length ≤ 900) (bg : List Dt)
    (hb : (∀ bg, F_is_row_ [bad, .int (ns.length + 1 : Nat)] bg = some (.bl false, bg)) ∨ ∃ q : List Int, bad = rowD q ∧ q.length = ns.length + 1 ∧ (q.headD 0 ∈ ([] : List Int) ∨ ∃ r ∈ rs, r.headD 0 = q.headD 0)) :
    FX_Table_M__init__ [D, .lst (rs.map rowD ++ bad :: rest)] bg = some (⟨"InvalidRow", [("index", .int (rs.length : Nat))]⟩, bg) := by
  have hf := hc.few
  have hcl : (Dt.str "key" :: ns.map Dt.str).length = ns.length + 1 := by rw [List.length_cons, List.length_map]
  let R : Dt := .lst (rs.map rowD ++ bad :: rest)
  have ck : FX_checked_rows_ [R, .int (ns.length + 1 : Nat), .lst []] bg = _ := checked_bad (tk := []) (rest := rest) (Nat.succ_pos ns.length) (by omega) h (by simp; omega) bg hb
  let s0 : Sta := ⟨[some (.obj "Table" [] []), dt D, dt R], bg⟩
  let s1 : Sta := ⟨[some (.obj "Table" ["_columns"] [colsD ns]), dt D, dt R], bg⟩
  have e1 : DJ.kFldX 0 "Table" "_columns" (mAppX FX_all_columns (mCons (mVar 1) mNil)) s0 = some (.nx, s1) := by
    unfold DJ.kFldX mAppX
    show (Option.bind (Option.bind (FX_all_columns [D] bg) _) _) = _
    rw [show FX_all_columns [D] bg = _ from cols_x hD hc.ok hc.nd hc.few bg]
    rfl
  have ea : mCons (mVar 2) (mCons (mCall gLen (mCons (DI.mFldO 0 "Table" "_columns") mNil)) (mCons (mLst mNil) mNil)) s1 = some ([R, .int (ns.length + 1 : Nat), .lst []], s1) := by
    refine mcons (s1 := s1) rfl (mcons (s1 := s1) (x := .int (ns.length + 1 : Nat)) ?_ rfl)
    show some (Dt.int ((Dt.str "key" :: ns.map Dt.str).length : Nat), s1) = _
    rw [hcl]
  have e2 : DJ.kFldX 0 "Table" "_rows" (DJ.mCallX DT.gSorted (mAppX FX_checked_rows_ (mCons (mVar 2) (mCons (mCall gLen (mCons (DI.mFldO 0 "Table" "_columns") mNil)) (mCons (mLst mNil) mNil))))) s1 = some (.ex ⟨"InvalidRow", [("index", .int (rs.length : Nat))]⟩, s1) := by
    unfold DJ.kFldX DJ.mCallX mAppX
    rw [ea, Option.bind_some]
    show (Option.bind (Option.bind (Option.bind (FX_checked_rows_ [R, .int (ns.length + 1 : Nat), .lst []] bg) _) _) _) = _
    rw [ck]
    rfl
  show (kSeqX _ _ s0).bind _ = _
  rw [sq_nx e1, e2]
  rfl
theorem gtm_k (d : Dt) : ∀ (k : Nat), k ≤ 4 → DT.gTMul (.tup [d]) (.int (k : Nat)) = some (.tup (List.replicate k d))
  | 0, _ | 1, _ | 2, _ | 3, _ | 4, _ => rfl
def zerosD (k : Nat) : List Dt := List.replicate k (.int 0)
def badsL (k : Nat) : List Dt := [.non, .int 3, .tup [], .tup (.bl true :: zerosD k), .lst (.int 9 :: zerosD k), .tup (.int 9 :: (zerosD k ++ [.int 1])), .tup (.str "9" :: zerosD k), .tup (List.replicate (k + 1) .non)]
theorem bads_no : ∀ (k : Nat), k ≤ 3 → ∀ d ∈ badsL k, ∀ bg, F_is_row_ [d, .int (k + 1 : Nat)] bg = some (.bl false, bg)
  | 0, _, d, hd, bg | 1, _, d, hd, bg | 2, _, d, hd, bg | 3, _, d, hd, bg => by
    unfold badsL at hd
    simp only [List.mem_cons, List.not_mem_nil, or_false] at hd
    rcases hd with rfl | rfl | rfl | rfl | rfl | rfl | rfl | rfl <;> rfl
def badsF : DM Dt := (mLst (mCons (mC .non) (mCons (mC (.int 3)) (mCons (mTup mNil) (mCons (m2 gAdd (mTup (mCons (mC (.bl true)) mNil)) (mVar 10)) (mCons (m2 gAdd (mLst (mCons (mC (.int 9)) mNil)) (mCall gListOf (mCons (mVar 10) mNil))) (mCons (m2 gAdd (m2 gAdd (mTup (mCons (mC (.int 9)) mNil)) (mVar 10)) (mTup (mCons (mC (.int 1)) mNil))) (mCons (m2 gAdd (mTup (mCons (mC (.str "9")) mNil)) (mVar 10)) (mCons (m2 DT.gTMul (mTup (mCons (mC .non) mNil)) (mCall gLen (mCons (mVar 8) mNil))) mNil)))))))))
theorem bads_eval {t : Sta} : ∀ (k : Nat), k ≤ 3 → mVar 10 t = some (.tup (zerosD k), t) → mCall gLen (mCons (mVar 8) mNil) t = some (.int (k + 1 : Nat), t) → badsF t = some (.lst (badsL k), t)
  | 0, _, h10, h8 | 1, _, h10, h8 | 2, _, h10, h8 | 3, _, h10, h8 => by
    have q (d : Dt) : ∀ {x : Dt}, gAdd (.tup [d]) (.tup (zerosD _)) = some x → m2 gAdd (mTup (mCons (mC d) mNil)) (mVar 10) t = some (x, t) := fun {x} e => m2_eq (s1 := t) (s2 := t) (x := .tup [d]) (mtup rfl) h10 e
    exact mlst (mcons (s1 := t) rfl (mcons (s1 := t) rfl (mcons (s1 := t) (s2 := t) (x := .tup []) (mtup rfl) (mcons (q (.bl true) rfl) (mcons (m2_eq (s1 := t) (s2 := t) (x := .lst [.int 9]) (mlst rfl) (mcall (mcons h10 rfl) rfl) rfl) (mcons (m2_eq (s1 := t) (s2 := t) (y := .tup [.int 1]) (q (.int 9) rfl) (mtup rfl) rfl) (mcons (q (.str "9") rfl) (mcons (m2_eq (s1 := t) (s2 := t) (x := .tup [.non]) (mtup rfl) h8 rfl) rfl)))))))) (by show (8 : Nat) ≤ 1000; decide)
theorem rep_non : ∀ (r : Nat), r < 2 → DX.gRep (.lst [.non]) (.int (r : Nat)) = some (.lst (List.replicate r .non))
  | 0, _ | 1, _ => rfl
def QL : Str := ((("law" : Str) ++ ".<locals>.") ++ "<lambda>")
def ifB : DMs := (kIf (mAndB (mB (m2 gNe (mVar 9) (mLst mNil))) (mB (m2 gEq (mApp F_Lpull (mCons (mVar 1) (mCons (mC (.int 2)) mNil))) (mC (.int 0))))) (kSeq (kAsg (m2 gAdd (mC (.int 1)) (mApp F_Lpull (mCons (mVar 1) (mCons (mCall gLen (mCons (mVar 9) mNil)) mNil)))) (hName 12))
    (kAsg (m2 gAdd (mTup (mCons (m2 gIx (mApp F_Lany (mCons (mVar 1) (mCons (mSl (mVar 9) mNoP (mPart (mVar 12))) mNil))) (mC (.int 0))) mNil)) (m2 DT.gTMul (mTup (mCons (mC (.int 5)) mNil)) (m2 gSub0 (mCall gLen (mCons (mVar 8) mNil)) (mC (.int 1))))) (hName 11))) kSkip)
def restB (ps : List (Addr × Addr)) : DMs := (kSeq (kIf (mNotB (mB (mApp (F_Llike 5) (mCons (DX.mTriesV 7 ps ((("law" : Str) ++ ".<locals>.") ++ "<lambda>") [("InvalidRow", "index")] "" [(DJ.mMakeX FX_Table_M__init__ [] (mCons (mVar 5) (mCons (mVar 6) mNil))), (DJ.mMakeX FX_Table_M__init__ [.tup []] (mCons (mVar 5) mNil)), (DJ.mMakeX FX_Procedure_M__init__ [] (mCons (mVar 5) (mCons (mC .non) (mCons (mC .non) mNil)))), (DJ.mMakeKX FX_Rules_M__init__ [.tup []] (mCons (mVar 5) mNil) (mCons (mC .non) mNil))]) (mCons (m2 DX.gRep (mLst (mCons (mTup (mCons (mC (.str "InvalidColumns")) (mCons (mTup mNil) mNil))) mNil)) (mC (.int 4))) mNil))))) (kRet (mC (.bl false))) kSkip)
    (kSeq (kAsg (m2 gAdd (mTup (mCons (mC (.str "key")) mNil)) (DT.mTupOf (mSl (mVar 4) mNoP (mPart (mApp F_Lpull (mCons (mVar 1) (mCons (mC (.int 4)) mNil))))))) (hName 8))
    (kSeq (kAsg (mApp F_Lmixed (mCons (mVar 1) (mCons (mApp F_Lrows (mCons (mVar 1) (mCons (mVar 8) (mCons (mC (.int 5)) mNil)))) mNil))) (hName 9))
    (kSeq (kAsg (m2 DT.gTMul (mTup (mCons (mC (.int 0)) mNil)) (m2 gSub0 (mCall gLen (mCons (mVar 8) mNil)) (mC (.int 1)))) (hName 10))
    (kSeq (kAsg (mApp F_Lany (mCons (mVar 1) (mCons (mLst (mCons (mC .non) (mCons (mC (.int 3)) (mCons (mTup mNil) (mCons (m2 gAdd (mTup (mCons (mC (.bl true)) mNil)) (mVar 10)) (mCons (m2 gAdd (mLst (mCons (mC (.int 9)) mNil)) (mCall gListOf (mCons (mVar 10) mNil))) (mCons (m2 gAdd (m2 gAdd (mTup (mCons (mC (.int 9)) mNil)) (mVar 10)) (mTup (mCons (mC (.int 1)) mNil))) (mCons (m2 gAdd (mTup (mCons (mC (.str "9")) mNil)) (mVar 10)) (mCons (m2 DT.gTMul (mTup (mCons (mC .non) mNil)) (mCall gLen (mCons (mVar 8) mNil))) mNil))))))))) mNil))) (hName 11))
    (kSeq (kAsg (mApp F_Lpull (mCons (mVar 1) (mCons (m2 gAdd (mCall gLen (mCons (mVar 9) mNil)) (mC (.int 1))) mNil))) (hName 12))
    (kSeq (kIf (mAndB (mB (m2 gNe (mVar 9) (mLst mNil))) (mB (m2 gEq (mApp F_Lpull (mCons (mVar 1) (mCons (mC (.int 2)) mNil))) (mC (.int 0))))) (kSeq (kAsg (m2 gAdd (mC (.int 1)) (mApp F_Lpull (mCons (mVar 1) (mCons (mCall gLen (mCons (mVar 9) mNil)) mNil)))) (hName 12))
    (kAsg (m2 gAdd (mTup (mCons (m2 gIx (mApp F_Lany (mCons (mVar 1) (mCons (mSl (mVar 9) mNoP (mPart (mVar 12))) mNil))) (mC (.int 0))) mNil)) (m2 DT.gTMul (mTup (mCons (mC (.int 5)) mNil)) (m2 gSub0 (mCall gLen (mCons (mVar 8) mNil)) (mC (.int 1))))) (hName 11))) kSkip)
    (kSeq (kAsg (m2 gAdd (m2 gAdd (m2 gAdd (mSl (mVar 9) mNoP (mPart (mVar 12))) (mLst (mCons (mVar 11) mNil))) (mSl (mVar 9) (mPart (mVar 12)) mNoP)) (m2 DX.gRep (mLst (mCons (mC .non) mNil)) (mApp F_Lpull (mCons (mVar 1) (mCons (mC (.int 2)) mNil))))) (hName 13))
    (kIf (mNotB (mB (mApp (F_Llike 5) (mCons (mTry [("InvalidRow", "index")] "" (DJ.mMakeX FX_Table_M__init__ [] (mCons (mSl (mVar 8) (mPart (mC (.int 1))) mNoP) (mCons (mVar 13) mNil)))) (mCons (mTup (mCons (mC (.str "InvalidRow")) (mCons (mTup (mCons (mVar 12) mNil)) mNil))) mNil))))) (kRet (mC (.bl false))) kSkip)))))))))
noncomputable def tBody : DMs := (kSeq (kAsg (mApp F_Lnew_names (mCons (mVar 1) (mCons (mC (.int 5)) mNil))) (hName 4))
    (kSeq (kAsg (mApp F_Lany (mCons (mVar 1) (mCons (mLst (mCons (mSl (mVar 4) mNoP (mPart (mC (.int 4)))) (mCons (mLst (mCons (m2 gIx (mVar 4) (mC (.int 0))) (mCons (m2 gIx (mVar 4) (mC (.int 0))) mNil))) (mCons (mLst (mCons (m2 gIx (mVar 4) (mC (.int 0))) (mCons (mC (.str "key")) mNil))) (mCons (mLst (mCons (mC (.str "A")) mNil)) (mCons (mC .non) (mCons (mC (.int 3)) (mCons (m2 gIx (mVar 4) (mC (.int 0))) (mCons (mLst (mCons (mC .non) mNil)) (mCons (mLst (mCons (mC (.str "own")) mNil)) (mCons (mLst (mCons (mC (.str "")) mNil)) (mCons (mLst (mCons (m2 gIx (mVar 4) (mC (.int 1))) (mCons (m2 gIx (mVar 4) (mC (.int 0))) (mCons (m2 gIx (mVar 4) (mC (.int 1))) mNil)))) (mCons (mLst (mCons (mTup (mCons (mC (.str "a")) mNil)) mNil)) (mCons (mLst (mCons (mC (.str "abcdefg")) mNil)) mNil)))))))))))))) mNil))) (hName 5))
    (kSeq (kAsg (mApp F_Lany (mCons (mVar 1) (mCons (mLst (mCons (mLst (mCons (mTup (mCons (mC (.int 1)) mNil)) mNil)) (mCons (mC .non) (mCons (mLst (mCons (mTup (mCons (mC (.int 1)) (mCons (mC (.int 2)) mNil))) (mCons (mTup (mCons (mC (.int 1)) (mCons (mC (.int 3)) mNil))) mNil))) mNil)))) mNil))) (hName 6))
    (DX.kLams 7 4 ((("law" : Str) ++ ".<locals>.") ++ "<lambda>") fun ps => (kSeq (kIf (mNotB (mB (mApp (F_Llike 5) (mCons (DX.mTriesV 7 ps ((("law" : Str) ++ ".<locals>.") ++ "<lambda>") [("InvalidRow", "index")] "" [(DJ.mMakeX FX_Table_M__init__ [] (mCons (mVar 5) (mCons (mVar 6) mNil))), (DJ.mMakeX FX_Table_M__init__ [.tup []] (mCons (mVar 5) mNil)), (DJ.mMakeX FX_Procedure_M__init__ [] (mCons (mVar 5) (mCons (mC .non) (mCons (mC .non) mNil)))), (DJ.mMakeKX FX_Rules_M__init__ [.tup []] (mCons (mVar 5) mNil) (mCons (mC .non) mNil))]) (mCons (m2 DX.gRep (mLst (mCons (mTup (mCons (mC (.str "InvalidColumns")) (mCons (mTup mNil) mNil))) mNil)) (mC (.int 4))) mNil))))) (kRet (mC (.bl false))) kSkip)
    (kSeq (kAsg (m2 gAdd (mTup (mCons (mC (.str "key")) mNil)) (DT.mTupOf (mSl (mVar 4) mNoP (mPart (mApp F_Lpull (mCons (mVar 1) (mCons (mC (.int 4)) mNil))))))) (hName 8))
    (kSeq (kAsg (mApp F_Lmixed (mCons (mVar 1) (mCons (mApp F_Lrows (mCons (mVar 1) (mCons (mVar 8) (mCons (mC (.int 5)) mNil)))) mNil))) (hName 9))
    (kSeq (kAsg (m2 DT.gTMul (mTup (mCons (mC (.int 0)) mNil)) (m2 gSub0 (mCall gLen (mCons (mVar 8) mNil)) (mC (.int 1)))) (hName 10))
    (kSeq (kAsg (mApp F_Lany (mCons (mVar 1) (mCons (mLst (mCons (mC .non) (mCons (mC (.int 3)) (mCons (mTup mNil) (mCons (m2 gAdd (mTup (mCons (mC (.bl true)) mNil)) (mVar 10)) (mCons (m2 gAdd (mLst (mCons (mC (.int 9)) mNil)) (mCall gListOf (mCons (mVar 10) mNil))) (mCons (m2 gAdd (m2 gAdd (mTup (mCons (mC (.int 9)) mNil)) (mVar 10)) (mTup (mCons (mC (.int 1)) mNil))) (mCons (m2 gAdd (mTup (mCons (mC (.str "9")) mNil)) (mVar 10)) (mCons (m2 DT.gTMul (mTup (mCons (mC .non) mNil)) (mCall gLen (mCons (mVar 8) mNil))) mNil))))))))) mNil))) (hName 11))
    (kSeq (kAsg (mApp F_Lpull (mCons (mVar 1) (mCons (m2 gAdd (mCall gLen (mCons (mVar 9) mNil)) (mC (.int 1))) mNil))) (hName 12))
    (kSeq (kIf (mAndB (mB (m2 gNe (mVar 9) (mLst mNil))) (mB (m2 gEq (mApp F_Lpull (mCons (mVar 1) (mCons (mC (.int 2)) mNil))) (mC (.int 0))))) (kSeq (kAsg (m2 gAdd (mC (.int 1)) (mApp F_Lpull (mCons (mVar 1) (mCons (mCall gLen (mCons (mVar 9) mNil)) mNil)))) (hName 12))
    (kAsg (m2 gAdd (mTup (mCons (m2 gIx (mApp F_Lany (mCons (mVar 1) (mCons (mSl (mVar 9) mNoP (mPart (mVar 12))) mNil))) (mC (.int 0))) mNil)) (m2 DT.gTMul (mTup (mCons (mC (.int 5)) mNil)) (m2 gSub0 (mCall gLen (mCons (mVar 8) mNil)) (mC (.int 1))))) (hName 11))) kSkip)
    (kSeq (kAsg (m2 gAdd (m2 gAdd (m2 gAdd (mSl (mVar 9) mNoP (mPart (mVar 12))) (mLst (mCons (mVar 11) mNil))) (mSl (mVar 9) (mPart (mVar 12)) mNoP)) (m2 DX.gRep (mLst (mCons (mC .non) mNil)) (mApp F_Lpull (mCons (mVar 1) (mCons (mC (.int 2)) mNil))))) (hName 13))
    (kIf (mNotB (mB (mApp (F_Llike 5) (mCons (mTry [("InvalidRow", "index")] "" (DJ.mMakeX FX_Table_M__init__ [] (mCons (mSl (mVar 8) (mPart (mC (.int 1))) mNoP) (mCons (mVar 13) mNil)))) (mCons (mTup (mCons (mC (.str "InvalidRow")) (mCons (mTup (mCons (mVar 12) mNil)) mNil))) mNil))))) (kRet (mC (.bl false))) kSkip)))))))))))))
theorem cut_take {α : Type} {l : List α} {i : Nat} (h : i ≤ l.length) : DL.cutD l none (some (i : Nat)) = l.take i := by
  have e1 : HT.sIx l.length 0 none = 0 := rfl
  unfold DL.cutD
  rw [six h, e1, List.drop_zero, Nat.sub_zero]
theorem cut_drop {α : Type} {l : List α} {i : Nat} (h : i ≤ l.length) : DL.cutD l (some (i : Nat)) none = l.drop i := by
  have e1 : HT.sIx l.length l.length none = l.length := rfl
  unfold DL.cutD
  rw [six h, e1, List.take_of_length_le (by simp)]
theorem gsl_take {rs : List (List Int)} {i : Nat} (h : i ≤ rs.length) : gSl (.lst (rs.map rowD)) none (some (i : Nat)) = some (.lst ((rs.take i).map rowD)) := by
  show some (Dt.lst (DL.cutD (rs.map rowD) none (some (i : Nat)))) = _
  rw [cut_take (by rw [List.length_map]; exact h), List.map_take]
theorem gsl_drop {rs : List (List Int)} {i : Nat} (h : i ≤ rs.length) : gSl (.lst (rs.map rowD)) (some (i : Nat)) none = some (.lst ((rs.drop i).map rowD)) := by
  show some (Dt.lst (DL.cutD (rs.map rowD) (some (i : Nat)) none)) = _
  rw [cut_drop (by rw [List.length_map]; exact h), List.map_drop]
theorem heads_ne {rs : List (List Int)} (ha : Asc rs) : rs.Pairwise fun a b => a.headD 0 ≠ b.headD 0 := ha.imp fun h => by omega
theorem gne_cons {d : Dt} {l : List Dt} {n : Nat} (h : okD n (.lst (d :: l)) = true) (hn : n ≤ 64) : gNe (.lst (d :: l)) (.lst []) = some (.bl true) := by
  have e1 := eqOk_of h hn
  have e2 : eqOk (.lst []) = true := eqOk_of (n := 1) (by decide) (by decide)
  have e3 : eqD (.lst (d :: l)) (.lst []) = false := rfl
  unfold gNe
  rw [e1, e2, if_pos (by rfl), e3]
  rfl
theorem gne_rows {rs : List (List Int)} (h : rs.length ≤ 1000) (hr : ∀ r ∈ rs, r.length ≤ 1000) : gNe (.lst (rs.map rowD)) (.lst []) = some (.bl (!rs.isEmpty)) := by
  cases rs with
  | nil => exact gne_refl (n := 1) (by decide) (by decide)
  | cons r rs => exact gne_cons (n := 3) (okD_rows h hr 0) (by decide)
theorem q_like : ∀ n, F_Llike n = sLlike n
  | 0 => rfl
  | n + 1 => by show B_Llike (F_Llike n) = sLlikeB (sLlike n); rw [q_like n]; rfl
theorem like_ok {A B : DM Dt} {s : Sta} {d : Dt} (hA : A s = some (d, s)) (hB : B s = some (d, s)) (h : okD 5 d = true) : mNotB (mB (mApp (F_Llike 5) (mCons A (mCons B mNil)))) s = some (false, s) := by
  unfold mNotB
  rw [mBt (s1 := s) (b := true) (mapp (s1 := s) (ds := [d, d]) (bg := s.bag) (mcons hA (mcons hB rfl)) (by rw [q_like]; exact like_refl 5 d s.bag h))]
  rfl
abbrev mk (x2 x3 x4 x5 x6 x7 x8 x9 x10 x11 x12 x13 : Option Slo) (bg : List Dt) : Sta := ⟨[none, dt .bag, x2, x3, x4, x5, x6, x7, x8, x9, x10, x11, x12, x13], bg⟩
/-- what stands at the place `at` in the list of rows: no row, or a row with a key that is there already -/
def BadAt (n : Nat) (qs : List (List Int)) (a : Nat) (b : Dt) : Prop := a ≤ qs.length ∧ ((∀ bg, F_is_row_ [b, .int (n + 1 : Nat)] bg = some (.bl false, bg)) ∨ ∃ q : List Int, b = rowD q ∧ q.length = n + 1 ∧ ∃ r ∈ qs.take a, r.headD 0 = q.headD 0)
theorem if_ok {ns : List Str} (hc : ColsOk ns) {qs : List (List Int)} (hq : qs.length ≤ 6) (hl : ∀ r ∈ qs, r.length = ns.length + 1) {a0 : Nat} {b0 : Dt} (h0 : BadAt ns.length qs a0 b0) {x2 x3 x4 x5 x6 x10 x13 : Option Slo} {bg : List Dt} (hb : BagOk bg) :
    ∃ (a1 : Nat) (b1 : Dt) (bg' : List Dt), BagOk bg' ∧ BadAt ns.length qs a1 b1 ∧ ∀ x7, ifB (mk x2 x3 x4 x5 x6 x7 (dt (colsD ns)) (dt (.lst (qs.map rowD))) x10 (dt b0) (dt (.int (a0 : Nat))) x13 bg) = some (.nx, mk x2 x3 x4 x5 x6 x7 (dt (colsD ns)) (dt (.lst (qs.map rowD))) x10 (dt b1) (dt (.int (a1 : Nat))) x13 bg') := by
  have hf := hc.few
  have hn : ∀ r ∈ qs, r.length ≤ 1000 := fun r hr => by rw [hl r hr]; omega
  by_cases e : qs.isEmpty = true
  · refine ⟨a0, b0, bg, hb, h0, fun x7 => ?_⟩
    have c : mB (m2 gNe (mVar 9) (mLst mNil)) (mk x2 x3 x4 x5 x6 x7 (dt (colsD ns)) (dt (.lst (qs.map rowD))) x10 (dt b0) (dt (.int (a0 : Nat))) x13 bg) = some (!qs.isEmpty, mk x2 x3 x4 x5 x6 x7 (dt (colsD ns)) (dt (.lst (qs.map rowD))) x10 (dt b0) (dt (.int (a0 : Nat))) x13 bg) := mBt (m2_eq (s1 := mk x2 x3 x4 x5 x6 x7 (dt (colsD ns)) (dt (.lst (qs.map rowD))) x10 (dt b0) (dt (.int (a0 : Nat))) x13 bg) (s2 := mk x2 x3 x4 x5 x6 x7 (dt (colsD ns)) (dt (.lst (qs.map rowD))) x10 (dt b0) (dt (.int (a0 : Nat))) x13 bg) (x := .lst (qs.map rowD)) (y := .lst []) rfl (mlst rfl) (gne_rows (by omega) hn))
    rw [e] at c
    exact (kif_f (and_f c)).trans rfl
  · have ef := Bool.eq_false_iff.mpr e
    have hpos : 0 < qs.length := by
      cases qs with
      | nil => exact (e rfl).elim
      | cons q qs => rw [List.length_cons]; omega
    obtain ⟨j, bg1, e1, j0, j1, hb1⟩ := pull_ok hb (n := 2) (by decide) (by decide)
    by_cases ej : j = 0
    · obtain ⟨m, bg2, e2, m0, m1, hb2⟩ := pull_ok hb1 (n := (qs.length : Nat)) (by omega) (by omega)
      obtain ⟨m, rfl⟩ : ∃ k : Nat, m = (k : Nat) := ⟨m.toNat, by omega⟩
      have hm : m + 1 ≤ qs.length := by omega
      obtain ⟨r, bg3, e3, hr, hb3⟩ := any_ok hb2 (rows := (qs.take (m + 1)).map rowD) (by rw [List.length_map, List.length_take]; omega) (by rw [List.length_map, List.length_take]; omega)
      obtain ⟨q, hqm, rfl⟩ := List.mem_map.mp hr
      have hql := hl q (List.mem_of_mem_take hqm)
      let q' : List Int := q.headD 0 :: List.replicate ns.length 5
      refine ⟨m + 1, rowD q', bg3, hb3, ⟨hm, .inr ⟨q', rfl, by show (List.replicate ns.length (5 : Int)).length + 1 = _; rw [List.length_replicate], q, hqm, rfl⟩⟩, fun x7 => ?_⟩
      have c : mB (m2 gNe (mVar 9) (mLst mNil)) (mk x2 x3 x4 x5 x6 x7 (dt (colsD ns)) (dt (.lst (qs.map rowD))) x10 (dt b0) (dt (.int (a0 : Nat))) x13 bg) = some (!qs.isEmpty, mk x2 x3 x4 x5 x6 x7 (dt (colsD ns)) (dt (.lst (qs.map rowD))) x10 (dt b0) (dt (.int (a0 : Nat))) x13 bg) := mBt (m2_eq (s1 := mk x2 x3 x4 x5 x6 x7 (dt (colsD ns)) (dt (.lst (qs.map rowD))) x10 (dt b0) (dt (.int (a0 : Nat))) x13 bg) (s2 := mk x2 x3 x4 x5 x6 x7 (dt (colsD ns)) (dt (.lst (qs.map rowD))) x10 (dt b0) (dt (.int (a0 : Nat))) x13 bg) (x := .lst (qs.map rowD)) (y := .lst []) rfl (mlst rfl) (gne_rows (by omega) hn))
      rw [ef] at c
      have c2 : mB (m2 gEq (mApp F_Lpull (mCons (mVar 1) (mCons (mC (.int 2)) mNil))) (mC (.int 0))) (mk x2 x3 x4 x5 x6 x7 (dt (colsD ns)) (dt (.lst (qs.map rowD))) x10 (dt b0) (dt (.int (a0 : Nat))) x13 bg) = some (true, mk x2 x3 x4 x5 x6 x7 (dt (colsD ns)) (dt (.lst (qs.map rowD))) x10 (dt b0) (dt (.int (a0 : Nat))) x13 bg1) := by
        rw [q_pull]
        exact mBt (m2_eq (s1 := mk x2 x3 x4 x5 x6 x7 (dt (colsD ns)) (dt (.lst (qs.map rowD))) x10 (dt b0) (dt (.int (a0 : Nat))) x13 bg1) (s2 := mk x2 x3 x4 x5 x6 x7 (dt (colsD ns)) (dt (.lst (qs.map rowD))) x10 (dt b0) (dt (.int (a0 : Nat))) x13 bg1) (x := .int j) (y := .int 0) (mapp (s1 := mk x2 x3 x4 x5 x6 x7 (dt (colsD ns)) (dt (.lst (qs.map rowD))) x10 (dt b0) (dt (.int (a0 : Nat))) x13 bg) (ds := [.bag, .int 2]) rfl e1) rfl (by rw [eqII, ej]; rfl))
      refine (kif_t ((and_t c).trans c2)).trans ?_
      have es : m2 gAdd (mC (.int 1)) (mApp F_Lpull (mCons (mVar 1) (mCons (mCall gLen (mCons (mVar 9) mNil)) mNil))) (mk x2 x3 x4 x5 x6 x7 (dt (colsD ns)) (dt (.lst (qs.map rowD))) x10 (dt b0) (dt (.int (a0 : Nat))) x13 bg1) = some (.int (m + 1 : Nat), mk x2 x3 x4 x5 x6 x7 (dt (colsD ns)) (dt (.lst (qs.map rowD))) x10 (dt b0) (dt (.int (a0 : Nat))) x13 bg2) := by
        rw [q_pull]
        refine m2_eq (s1 := mk x2 x3 x4 x5 x6 x7 (dt (colsD ns)) (dt (.lst (qs.map rowD))) x10 (dt b0) (dt (.int (a0 : Nat))) x13 bg1) (s2 := mk x2 x3 x4 x5 x6 x7 (dt (colsD ns)) (dt (.lst (qs.map rowD))) x10 (dt b0) (dt (.int (a0 : Nat))) x13 bg2) (x := .int 1) (y := .int (m : Nat)) rfl (mapp (s1 := mk x2 x3 x4 x5 x6 x7 (dt (colsD ns)) (dt (.lst (qs.map rowD))) x10 (dt b0) (dt (.int (a0 : Nat))) x13 bg1) (ds := [.bag, .int (qs.length : Nat)]) (mcons (s1 := mk x2 x3 x4 x5 x6 x7 (dt (colsD ns)) (dt (.lst (qs.map rowD))) x10 (dt b0) (dt (.int (a0 : Nat))) x13 bg1) rfl (mcons (s1 := mk x2 x3 x4 x5 x6 x7 (dt (colsD ns)) (dt (.lst (qs.map rowD))) x10 (dt b0) (dt (.int (a0 : Nat))) x13 bg1) (x := .int (qs.length : Nat)) ?_ rfl)) e2) ?_
        · show some (Dt.int ((qs.map rowD).length : Nat), mk x2 x3 x4 x5 x6 x7 (dt (colsD ns)) (dt (.lst (qs.map rowD))) x10 (dt b0) (dt (.int (a0 : Nat))) x13 bg1) = _
          rw [List.length_map]
        · show some (Dt.int (1 + (m : Int))) = _
          rw [show (1 : Int) + (m : Int) = ((m + 1 : Nat) : Int) by omega]
      refine (kseq (s1 := mk x2 x3 x4 x5 x6 x7 (dt (colsD ns)) (dt (.lst (qs.map rowD))) x10 (dt b0) (dt (.int (m + 1 : Nat))) x13 bg2) (kasg (s1 := mk x2 x3 x4 x5 x6 x7 (dt (colsD ns)) (dt (.lst (qs.map rowD))) x10 (dt b0) (dt (.int (a0 : Nat))) x13 bg2) (d := .int (m + 1 : Nat)) es rfl)).trans ?_
      refine kasg (s1 := mk x2 x3 x4 x5 x6 x7 (dt (colsD ns)) (dt (.lst (qs.map rowD))) x10 (dt b0) (dt (.int (m + 1 : Nat))) x13 bg3) (d := rowD q') ?_ rfl
      have eh : m2 gIx (mApp F_Lany (mCons (mVar 1) (mCons (mSl (mVar 9) mNoP (mPart (mVar 12))) mNil))) (mC (.int 0)) (mk x2 x3 x4 x5 x6 x7 (dt (colsD ns)) (dt (.lst (qs.map rowD))) x10 (dt b0) (dt (.int (m + 1 : Nat))) x13 bg2) = some (.int (q.headD 0), mk x2 x3 x4 x5 x6 x7 (dt (colsD ns)) (dt (.lst (qs.map rowD))) x10 (dt b0) (dt (.int (m + 1 : Nat))) x13 bg3) := by
        rw [q_any]
        exact m2_eq (s1 := mk x2 x3 x4 x5 x6 x7 (dt (colsD ns)) (dt (.lst (qs.map rowD))) x10 (dt b0) (dt (.int (m + 1 : Nat))) x13 bg3) (s2 := mk x2 x3 x4 x5 x6 x7 (dt (colsD ns)) (dt (.lst (qs.map rowD))) x10 (dt b0) (dt (.int (m + 1 : Nat))) x13 bg3) (x := rowD q) (y := .int 0) (mapp (s1 := mk x2 x3 x4 x5 x6 x7 (dt (colsD ns)) (dt (.lst (qs.map rowD))) x10 (dt b0) (dt (.int (m + 1 : Nat))) x13 bg2) (ds := [.bag, .lst ((qs.take (m + 1)).map rowD)]) (mcons (s1 := mk x2 x3 x4 x5 x6 x7 (dt (colsD ns)) (dt (.lst (qs.map rowD))) x10 (dt b0) (dt (.int (m + 1 : Nat))) x13 bg2) rfl (mcons (s1 := mk x2 x3 x4 x5 x6 x7 (dt (colsD ns)) (dt (.lst (qs.map rowD))) x10 (dt b0) (dt (.int (m + 1 : Nat))) x13 bg2) (msl (s1 := mk x2 x3 x4 x5 x6 x7 (dt (colsD ns)) (dt (.lst (qs.map rowD))) x10 (dt b0) (dt (.int (m + 1 : Nat))) x13 bg2) (s2 := mk x2 x3 x4 x5 x6 x7 (dt (colsD ns)) (dt (.lst (qs.map rowD))) x10 (dt b0) (dt (.int (m + 1 : Nat))) x13 bg2) (s3 := mk x2 x3 x4 x5 x6 x7 (dt (colsD ns)) (dt (.lst (qs.map rowD))) x10 (dt b0) (dt (.int (m + 1 : Nat))) x13 bg2) (x := .lst (qs.map rowD)) (lo := none) (hi := some (m + 1 : Nat)) rfl rfl rfl (gsl_take hm)) rfl)) e3) rfl (head_ix (by omega))
      refine m2_eq (s1 := mk x2 x3 x4 x5 x6 x7 (dt (colsD ns)) (dt (.lst (qs.map rowD))) x10 (dt b0) (dt (.int (m + 1 : Nat))) x13 bg3) (s2 := mk x2 x3 x4 x5 x6 x7 (dt (colsD ns)) (dt (.lst (qs.map rowD))) x10 (dt b0) (dt (.int (m + 1 : Nat))) x13 bg3) (x := .tup [.int (q.headD 0)]) (y := .tup (List.replicate ns.length (.int 5))) (mtup (mcons eh rfl)) (m2_eq (s1 := mk x2 x3 x4 x5 x6 x7 (dt (colsD ns)) (dt (.lst (qs.map rowD))) x10 (dt b0) (dt (.int (m + 1 : Nat))) x13 bg3) (s2 := mk x2 x3 x4 x5 x6 x7 (dt (colsD ns)) (dt (.lst (qs.map rowD))) x10 (dt b0) (dt (.int (m + 1 : Nat))) x13 bg3) (x := .tup [.int 5]) (y := .int (ns.length : Nat)) (mtup rfl) (m2_eq (s1 := mk x2 x3 x4 x5 x6 x7 (dt (colsD ns)) (dt (.lst (qs.map rowD))) x10 (dt b0) (dt (.int (m + 1 : Nat))) x13 bg3) (s2 := mk x2 x3 x4 x5 x6 x7 (dt (colsD ns)) (dt (.lst (qs.map rowD))) x10 (dt b0) (dt (.int (m + 1 : Nat))) x13 bg3) (x := .int (ns.length + 1 : Nat)) (y := .int 1) ?_ rfl ?_) (gtm_k _ _ (by omega))) ?_
      · show some (Dt.int ((Dt.str "key" :: ns.map Dt.str).length : Nat), mk x2 x3 x4 x5 x6 x7 (dt (colsD ns)) (dt (.lst (qs.map rowD))) x10 (dt b0) (dt (.int (m + 1 : Nat))) x13 bg3) = _
        rw [List.length_cons, List.length_map]
      · show some (Dt.int (((ns.length + 1 : Nat) : Int) - 1)) = _
        rw [show ((ns.length + 1 : Nat) : Int) - 1 = ((ns.length : Nat) : Int) by omega]
      · show (if [Dt.int (q.headD 0)].length + (List.replicate ns.length (Dt.int 5)).length ≤ sizeLine then some (Dt.tup ([Dt.int (q.headD 0)] ++ List.replicate ns.length (.int 5))) else none) = _
        rw [if_pos (line_big (by rw [List.length_replicate, List.length_singleton]; omega))]
        show some (Dt.tup (Dt.int (q.headD 0) :: List.replicate ns.length (.int 5))) = some (Dt.tup (Dt.int (q.headD 0) :: (List.replicate ns.length (5 : Int)).map Dt.int))
        rw [List.map_replicate]
    · refine ⟨a0, b0, bg1, hb1, h0, fun x7 => ?_⟩
      have c : mB (m2 gNe (mVar 9) (mLst mNil)) (mk x2 x3 x4 x5 x6 x7 (dt (colsD ns)) (dt (.lst (qs.map rowD))) x10 (dt b0) (dt (.int (a0 : Nat))) x13 bg) = some (!qs.isEmpty, mk x2 x3 x4 x5 x6 x7 (dt (colsD ns)) (dt (.lst (qs.map rowD))) x10 (dt b0) (dt (.int (a0 : Nat))) x13 bg) := mBt (m2_eq (s1 := mk x2 x3 x4 x5 x6 x7 (dt (colsD ns)) (dt (.lst (qs.map rowD))) x10 (dt b0) (dt (.int (a0 : Nat))) x13 bg) (s2 := mk x2 x3 x4 x5 x6 x7 (dt (colsD ns)) (dt (.lst (qs.map rowD))) x10 (dt b0) (dt (.int (a0 : Nat))) x13 bg) (x := .lst (qs.map rowD)) (y := .lst []) rfl (mlst rfl) (gne_rows (by omega) hn))
      rw [ef] at c
      have c2 : mB (m2 gEq (mApp F_Lpull (mCons (mVar 1) (mCons (mC (.int 2)) mNil))) (mC (.int 0))) (mk x2 x3 x4 x5 x6 x7 (dt (colsD ns)) (dt (.lst (qs.map rowD))) x10 (dt b0) (dt (.int (a0 : Nat))) x13 bg) = some (false, mk x2 x3 x4 x5 x6 x7 (dt (colsD ns)) (dt (.lst (qs.map rowD))) x10 (dt b0) (dt (.int (a0 : Nat))) x13 bg1) := by
        rw [q_pull]
        exact mBt (m2_eq (s1 := mk x2 x3 x4 x5 x6 x7 (dt (colsD ns)) (dt (.lst (qs.map rowD))) x10 (dt b0) (dt (.int (a0 : Nat))) x13 bg1) (s2 := mk x2 x3 x4 x5 x6 x7 (dt (colsD ns)) (dt (.lst (qs.map rowD))) x10 (dt b0) (dt (.int (a0 : Nat))) x13 bg1) (x := .int j) (y := .int 0) (mapp (s1 := mk x2 x3 x4 x5 x6 x7 (dt (colsD ns)) (dt (.lst (qs.map rowD))) x10 (dt b0) (dt (.int (a0 : Nat))) x13 bg) (ds := [.bag, .int 2]) rfl e1) rfl (by rw [eqII, beq_eq_false_iff_ne.mpr ej]))
      exact (kif_f ((and_t c).trans c2)).trans rfl
open DX in
theorem try_c {f : DMX} {s : Sta} (h : f s = some (.inr ⟨"InvalidColumns", []⟩, s)) : mTry [("InvalidRow", "index")] "" f s = some (.tup [.str "InvalidColumns", .tup []], s) := by
  unfold mTry
  rw [h]
  rfl
open DX in
theorem tries_c {sl : List (Option Slo)} {bg : List Dt} : ∀ (fs : List DMX), (∀ f ∈ fs, f ⟨sl, bg⟩ = some (.inr ⟨"InvalidColumns", []⟩, ⟨sl, bg⟩)) → triesD [("InvalidRow", "index")] "" sl fs bg = some (fs.map fun _ => .tup [.str "InvalidColumns", .tup []], bg)
  | [], _ => rfl
  | f :: fs, h => by
    unfold triesD
    rw [try_c (h f (List.mem_cons_self ..)), Option.bind_some]
    dsimp only
    rw [tries_c fs fun g hg => h g (List.mem_cons_of_mem _ hg)]
    rfl
open DX in
theorem mk_bad {F : DJ.FIX} {dd : List Dt} {g : DM (List Dt)} {s : Sta} {ds : List Dt} {e : Er} (h : g s = some (ds, s)) (hF : F (ds ++ dd) s.bag = some (e, s.bag)) : DJ.mMakeX F dd g s = some (.inr e, s) := by
  unfold DJ.mMakeX
  rw [h, Option.bind_some]
  dsimp only
  rw [hF]
  rfl
set_option maxHeartbeats 8000000 in
open DX in
theorem rest_ok {z : List Str} (h5 : z.length = 5) (hz : ∀ y ∈ z, NameOk y) (hnd : z.Nodup) {w r6 : Dt} (hw : ∀ bg, F_are_names [w, .int 3] bg = some (.bl false, bg)) {x2 x3 x8 x9 x10 x11 x12 x13 : Option Slo} {bg : List Dt} (hb : BagOk bg) :
    ∃ (y8 y9 y10 y11 y12 y13 : Option Slo) (bg' : List Dt), BagOk bg' ∧ ∀ ps : List (Addr × Addr), ps.length = 4 → restB ps (mk x2 x3 (dt (.lst (z.map Dt.str))) (dt w) (dt r6) (some (.fns ps QL)) x8 x9 x10 x11 x12 x13 bg) = some (.nx, mk x2 x3 (dt (.lst (z.map Dt.str))) (dt w) (dt r6) (some (.fns ps QL)) y8 y9 y10 y11 y12 y13 bg') := by
  obtain ⟨j, bg1, e1, j0, j1, hb1⟩ := pull_ok hb (n := 4) (by decide) (by decide)
  obtain ⟨j, rfl⟩ : ∃ k : Nat, j = (k : Nat) := ⟨j.toNat, by omega⟩
  have hns : (z.take j).length = j := by rw [List.length_take]; omega
  have hc : ColsOk (z.take j) := ⟨fun y hy => hz y (List.mem_of_mem_take hy), hnd.sublist (List.take_sublist ..), by omega⟩
  generalize hg : z.take j = ns at hns hc
  have hf := hc.few
  obtain ⟨rs, bg2, e2, ha, h6, hl, _, hb2⟩ := rows_draw hf (mo := 5) (by decide) hb1
  obtain ⟨ql, bg3, e3, hp, hb3⟩ := mixed_ok (l := rs.map rowD) hb2 (by rw [List.length_map]; omega)
  obtain ⟨qs, rfl, hq⟩ := perm_rows hp
  have hql := hq.length_eq
  have hqn : ∀ r ∈ qs, r.length = ns.length + 1 := fun r hr => hl r (hq.mem_iff.mp hr)
  have hqd : qs.Pairwise fun a b => a.headD 0 ≠ b.headD 0 := (hq.pairwise_iff (fun h => Ne.symm h)).mpr (heads_ne ha)
  obtain ⟨b0, bg4, e4, hbm, hb4⟩ := any_ok hb3 (rows := badsL ns.length) (by show 0 < 8; decide) (by show 8 < 1000000; decide)
  obtain ⟨a0, bg5, e5, a00, a01, hb5⟩ := pull_ok hb4 (n := ((qs.length : Nat) : Int) + 1) (by omega) (by omega)
  obtain ⟨a0, rfl⟩ : ∃ k : Nat, a0 = (k : Nat) := ⟨a0.toNat, by omega⟩
  let NA : Option Slo := dt (.lst (z.map Dt.str))
  obtain ⟨a1, b1, bg6, hb6, hB1, eif⟩ := if_ok hc (qs := qs) (by omega) hqn (a0 := a0) (b0 := b0) ⟨by omega, .inl (bads_no _ hf b0 hbm)⟩ (x2 := x2) (x3 := x3) (x4 := NA) (x5 := dt w) (x6 := dt r6) (x10 := dt (.tup (zerosD ns.length))) (x13 := x13) hb5
  obtain ⟨r, bg7, e7, r0, r1, hb7⟩ := pull_ok hb6 (n := 2) (by decide) (by decide)
  obtain ⟨r, rfl⟩ : ∃ k : Nat, r = (k : Nat) := ⟨r.toNat, by omega⟩
  refine ⟨dt (colsD ns), dt (.lst (qs.map rowD)), dt (.tup (zerosD ns.length)), dt b1, dt (.int (a1 : Nat)), dt (.lst ((qs.take a1).map rowD ++ b1 :: ((qs.drop a1).map rowD ++ List.replicate r .non))), bg7, hb7, fun ps hps => ?_⟩
  let t0 : Sta := mk x2 x3 NA (dt w) (dt r6) (some (.fns ps QL)) x8 x9 x10 x11 x12 x13 bg
  let t1' : Sta := mk x2 x3 NA (dt w) (dt r6) (some (.fns ps QL)) x8 x9 x10 x11 x12 x13 bg1
  let t1 : Sta := mk x2 x3 NA (dt w) (dt r6) (some (.fns ps QL)) (dt (colsD ns)) x9 x10 x11 x12 x13 bg1
  let t2' : Sta := mk x2 x3 NA (dt w) (dt r6) (some (.fns ps QL)) (dt (colsD ns)) x9 x10 x11 x12 x13 bg2
  let t3' : Sta := mk x2 x3 NA (dt w) (dt r6) (some (.fns ps QL)) (dt (colsD ns)) x9 x10 x11 x12 x13 bg3
  let t3 : Sta := mk x2 x3 NA (dt w) (dt r6) (some (.fns ps QL)) (dt (colsD ns)) (dt (.lst (qs.map rowD))) x10 x11 x12 x13 bg3
  let t4 : Sta := mk x2 x3 NA (dt w) (dt r6) (some (.fns ps QL)) (dt (colsD ns)) (dt (.lst (qs.map rowD))) (dt (.tup (zerosD ns.length))) x11 x12 x13 bg3
  let t5' : Sta := mk x2 x3 NA (dt w) (dt r6) (some (.fns ps QL)) (dt (colsD ns)) (dt (.lst (qs.map rowD))) (dt (.tup (zerosD ns.length))) x11 x12 x13 bg4
  let t5 : Sta := mk x2 x3 NA (dt w) (dt r6) (some (.fns ps QL)) (dt (colsD ns)) (dt (.lst (qs.map rowD))) (dt (.tup (zerosD ns.length))) (dt b0) x12 x13 bg4
  let t6' : Sta := mk x2 x3 NA (dt w) (dt r6) (some (.fns ps QL)) (dt (colsD ns)) (dt (.lst (qs.map rowD))) (dt (.tup (zerosD ns.length))) (dt b0) x12 x13 bg5
  let t6 : Sta := mk x2 x3 NA (dt w) (dt r6) (some (.fns ps QL)) (dt (colsD ns)) (dt (.lst (qs.map rowD))) (dt (.tup (zerosD ns.length))) (dt b0) (dt (.int (a0 : Nat))) x13 bg5
  let t7 : Sta := mk x2 x3 NA (dt w) (dt r6) (some (.fns ps QL)) (dt (colsD ns)) (dt (.lst (qs.map rowD))) (dt (.tup (zerosD ns.length))) (dt b1) (dt (.int (a1 : Nat))) x13 bg6
  let t8' : Sta := mk x2 x3 NA (dt w) (dt r6) (some (.fns ps QL)) (dt (colsD ns)) (dt (.lst (qs.map rowD))) (dt (.tup (zerosD ns.length))) (dt b1) (dt (.int (a1 : Nat))) x13 bg7
  let t8 : Sta := mk x2 x3 NA (dt w) (dt r6) (some (.fns ps QL)) (dt (colsD ns)) (dt (.lst (qs.map rowD))) (dt (.tup (zerosD ns.length))) (dt b1) (dt (.int (a1 : Nat))) (dt (.lst ((qs.take a1).map rowD ++ b1 :: ((qs.drop a1).map rowD ++ List.replicate r .non)))) bg7
  show restB ps t0 = some (.nx, t8)
  unfold restB
  have hcl : ∀ {t : Sta}, mVar 8 t = some (colsD ns, t) → mCall gLen (mCons (mVar 8) mNil) t = some (.int (ns.length + 1 : Nat), t) := fun {t} h => mcall (s1 := t) (l := [colsD ns]) (mcons h rfl) (by
    show some (Dt.int ((Dt.str "key" :: ns.map Dt.str).length : Nat)) = _
    rw [List.length_cons, List.length_map])
  have h9 : ∀ {t : Sta}, mVar 9 t = some (.lst (qs.map rowD), t) → mCall gLen (mCons (mVar 9) mNil) t = some (.int (qs.length : Nat), t) := fun {t} h => mcall (s1 := t) (l := [.lst (qs.map rowD)]) (mcons h rfl) (by
    show some (Dt.int ((qs.map rowD).length : Nat)) = _
    rw [List.length_map])
  refine (kseq (s1 := t0) ((kif_f (s1 := t0) (like_ok (d := .lst [.tup [.str "InvalidColumns", .tup []], .tup [.str "InvalidColumns", .tup []], .tup [.str "InvalidColumns", .tup []], .tup [.str "InvalidColumns", .tup []]]) ?_ ?_ (by decide +kernel))).trans rfl)).trans ?_
  · unfold mTriesV
    show (if ps = ps ∧ QL = QL ∧ ps.length = 4 then (triesD [("InvalidRow", "index")] "" (t0.sl.map datOnly) [(DJ.mMakeX FX_Table_M__init__ [] (mCons (mVar 5) (mCons (mVar 6) mNil))), (DJ.mMakeX FX_Table_M__init__ [.tup []] (mCons (mVar 5) mNil)), (DJ.mMakeX FX_Procedure_M__init__ [] (mCons (mVar 5) (mCons (mC .non) (mCons (mC .non) mNil)))), (DJ.mMakeKX FX_Rules_M__init__ [.tup []] (mCons (mVar 5) mNil) (mCons (mC .non) mNil))] t0.bag).bind _ else none) = _
    rw [if_pos ⟨rfl, rfl, hps⟩, tries_c [(DJ.mMakeX FX_Table_M__init__ [] (mCons (mVar 5) (mCons (mVar 6) mNil))), (DJ.mMakeX FX_Table_M__init__ [.tup []] (mCons (mVar 5) mNil)), (DJ.mMakeX FX_Procedure_M__init__ [] (mCons (mVar 5) (mCons (mC .non) (mCons (mC .non) mNil)))), (DJ.mMakeKX FX_Rules_M__init__ [.tup []] (mCons (mVar 5) mNil) (mCons (mC .non) mNil))] (fun f hf => ?_)]
    · rfl
    · simp only [List.mem_cons, List.not_mem_nil, or_false] at hf
      rcases hf with rfl | rfl | rfl | rfl
      · exact mk_bad (ds := [w, r6]) rfl (tab_bad hw bg r6)
      · exact mk_bad (ds := [w]) rfl (tab_bad hw bg (.tup []))
      · exact mk_bad (ds := [w, .non, .non]) rfl (proc_bad hw bg .non .non)
      · unfold DJ.mMakeKX
        show (Option.bind (FX_Rules_M__init__ [w, .non, .tup []] bg) _) = _
        rw [rules_bad hw bg .non (.tup [])]
        rfl
  · exact m2_eq (s1 := t0) (s2 := t0) (x := .lst [.tup [.str "InvalidColumns", .tup []]]) (y := .int 4) (mlst (mcons (s1 := t0) (mtup (mcons (s1 := t0) rfl (mcons (s1 := t0) (mtup rfl) rfl))) rfl)) rfl rfl
  refine (kseq (s1 := t1) (kasg (s1 := t1') (d := colsD ns) ?_ rfl)).trans ?_
  · refine m2_eq (s1 := t0) (s2 := t1') (x := .tup [.str "key"]) (y := .tup (ns.map Dt.str)) (mtup rfl) ?_ ?_
    · unfold DT.mTupOf
      rw [msl (s1 := t0) (s2 := t0) (s3 := t1') (x := .lst (z.map Dt.str)) (d := .lst (ns.map Dt.str)) (lo := none) (hi := some (j : Nat)) rfl rfl ?_ ?_]
      · rfl
      · unfold mPart
        rw [q_pull, mapp (s1 := t0) (ds := [.bag, .int 4]) rfl e1]
        rfl
      · show some (Dt.lst (DL.cutD (z.map Dt.str) none (some (j : Nat)))) = _
        rw [cut_take (by rw [List.length_map]; omega), ← List.map_take, hg]
    · show (if [Dt.str "key"].length + (ns.map Dt.str).length ≤ sizeLine then some (Dt.tup ([Dt.str "key"] ++ ns.map Dt.str)) else none) = _
      rw [if_pos (line_big (by rw [List.length_map, List.length_singleton]; omega))]
      rfl
  refine (kseq (s1 := t3) (kasg (s1 := t3') (d := .lst (qs.map rowD)) (mapp (s1 := t2') (ds := [.bag, .lst (rs.map rowD)]) (mcons (s1 := t1) rfl (mcons (s1 := t2') (mapp (s1 := t1) (ds := [.bag, colsD ns, .int 5]) rfl e2) rfl)) e3) rfl)).trans ?_
  have hk : ∀ {t : Sta}, mVar 8 t = some (colsD ns, t) → m2 gSub0 (mCall gLen (mCons (mVar 8) mNil)) (mC (.int 1)) t = some (.int (ns.length : Nat), t) := fun {t} h => m2_eq (s1 := t) (s2 := t) (x := .int (ns.length + 1 : Nat)) (y := .int 1) (hcl h) rfl (by
    show some (Dt.int (((ns.length + 1 : Nat) : Int) - 1)) = _
    rw [show ((ns.length + 1 : Nat) : Int) - 1 = ((ns.length : Nat) : Int) by omega])
  refine (kseq (s1 := t4) (kasg (s1 := t3) (d := .tup (zerosD ns.length)) (m2_eq (s1 := t3) (s2 := t3) (x := .tup [.int 0]) (mtup rfl) (hk rfl) (gtm_k _ _ (by omega))) rfl)).trans ?_
  refine (kseq (s1 := t5) (kasg (s1 := t5') (d := b0) ?_ rfl)).trans ?_
  · rw [q_any]
    exact mapp (s1 := t4) (ds := [.bag, .lst (badsL ns.length)]) (mcons (s1 := t4) rfl (mcons (s1 := t4) (bads_eval ns.length hf rfl (hcl rfl)) rfl)) e4
  refine (kseq (s1 := t6) (kasg (s1 := t6') (d := .int (a0 : Nat)) ?_ rfl)).trans ?_
  · rw [q_pull]
    exact mapp (s1 := t5) (ds := [.bag, .int (((qs.length : Nat) : Int) + 1)]) (mcons (s1 := t5) rfl (mcons (s1 := t5) (m2_eq (s1 := t5) (s2 := t5) (x := .int (qs.length : Nat)) (y := .int 1) (h9 rfl) rfl rfl) rfl)) e5
  refine (kseq (s1 := t7) (eif (some (.fns ps QL)))).trans ?_
  have ha1 := hB1.1
  refine (kseq (s1 := t8) (kasg (s1 := t8') (d := .lst ((qs.take a1).map rowD ++ b1 :: ((qs.drop a1).map rowD ++ List.replicate r .non))) ?_ rfl)).trans ?_
  · refine m2_eq (s1 := t7) (s2 := t8') (x := .lst ((qs.take a1).map rowD ++ [b1] ++ (qs.drop a1).map rowD)) (y := .lst (List.replicate r .non)) ?_ ?_ ?_
    · refine m2_eq (s1 := t7) (s2 := t7) (x := .lst ((qs.take a1).map rowD ++ [b1])) (y := .lst ((qs.drop a1).map rowD)) (m2_eq (s1 := t7) (s2 := t7) (x := .lst ((qs.take a1).map rowD)) (y := .lst [b1]) ?_ (mlst rfl) (gaddL (by simp; omega))) ?_ (gaddL (by simp; omega))
      · exact msl (s1 := t7) (s2 := t7) (s3 := t7) (x := .lst (qs.map rowD)) (lo := none) (hi := some (a1 : Nat)) rfl rfl rfl (gsl_take ha1)
      · exact msl (s1 := t7) (s2 := t7) (s3 := t7) (x := .lst (qs.map rowD)) (lo := some (a1 : Nat)) (hi := none) rfl rfl rfl (gsl_drop ha1)
    · rw [q_pull]
      exact m2_eq (s1 := t7) (s2 := t8') (x := .lst [.non]) (y := .int (r : Nat)) (mlst rfl) (mapp (s1 := t7) (ds := [.bag, .int 2]) rfl e7) (rep_non r (by omega))
    · rw [gaddL (by simp; omega)]
      congr 2
      simp
  refine (kif_f (s1 := t8) (like_ok (d := .tup [.str "InvalidRow", .tup [.int (a1 : Nat)]]) ?_ ?_ ?_)).trans rfl
  · have hR : RowsOk (ns.length + 1) [] (qs.take a1) := ⟨fun r hr => hqn r (List.mem_of_mem_take hr), fun r _ h => (List.not_mem_nil h).elim, hqd.sublist (List.take_sublist ..)⟩
    have et := tab_row hc (.inr rfl) (rs := qs.take a1) (bad := b1) (rest := (qs.drop a1).map rowD ++ List.replicate r .non) hR (by rw [List.length_take]; omega) bg7 (hB1.2.imp id fun ⟨q, e, hq, hx⟩ => ⟨q, e, hq, .inr hx⟩)
    rw [show (qs.take a1).length = a1 by rw [List.length_take]; omega] at et
    have ea : mCons (mSl (mVar 8) (mPart (mC (.int 1))) mNoP) (mCons (mVar 13) mNil) t8 = some ([.tup (ns.map Dt.str), .lst ((qs.take a1).map rowD ++ b1 :: ((qs.drop a1).map rowD ++ List.replicate r .non))], t8) :=
      mcons (s1 := t8) (msl (s1 := t8) (s2 := t8) (s3 := t8) (x := colsD ns) rfl rfl rfl cut1) (mcons (s1 := t8) (s2 := t8) (x := .lst ((qs.take a1).map rowD ++ b1 :: ((qs.drop a1).map rowD ++ List.replicate r .non))) rfl rfl)
    have em : DJ.mMakeX FX_Table_M__init__ [] (mCons (mSl (mVar 8) (mPart (mC (.int 1))) mNoP) (mCons (mVar 13) mNil)) t8 = some (.inr ⟨"InvalidRow", [("index", .int (a1 : Nat))]⟩, t8) := mk_bad ea et
    unfold mTry
    rw [em]
    rfl
  · exact mtup (mcons (s1 := t8) rfl (mcons (s1 := t8) (mtup (mcons (s1 := t8) rfl rfl)) rfl))
  · exact (by decide +kernel : okD 5 (.tup [.str "InvalidRow", .tup [.int 0]]) = true) |> fun h => by
      unfold okD at h ⊢
      exact h
def I (s : Sta) : Prop := ∃ x2 x3 x4 x5 x6 x7 x8 x9 x10 x11 x12 x13, s.sl = [none, dt .bag, x2, x3, x4, x5, x6, x7, x8, x9, x10, x11, x12, x13] ∧ BagOk s.bag
theorem turn (d : Dt) (s : Sta) (h : I s) : ∃ s1 r s2, hName 2 d s = some s1 ∧ tBody s1 = some (r, s2) ∧ (r = .nx ∨ r = .ct) ∧ I s2 := by
  obtain ⟨x2, x3, x4, x5, x6, x7, x8, x9, x10, x11, x12, x13, hs, hb⟩ := h
  obtain ⟨sl, bg⟩ := s
  dsimp only at hs hb
  subst hs
  obtain ⟨z, bg1, e1, h5, hz, hnd, hb1⟩ := new_names_nd hb (m := 5) (by decide)
  match z, h5 with
  | [z0, z1, z2, z3, z4], h5 =>
    obtain ⟨w, bg2, e2, hw, hb2⟩ := any_ok hb1 (rows := wrongsD z0 z1 z2 z3) (by show 0 < 13; decide) (by show 13 < 1000000; decide)
    obtain ⟨r6, bg3, e3, _, hb3⟩ := any_ok hb2 (rows := [.lst [.tup [.int 1]], .non, .lst [.tup [.int 1, .int 2], .tup [.int 1, .int 3]]]) (by show 0 < 3; decide) (by show 3 < 1000000; decide)
    obtain ⟨y8, y9, y10, y11, y12, y13, bg4, hb4, e4⟩ := rest_ok (z := [z0, z1, z2, z3, z4]) rfl hz hnd (w := w) (r6 := r6) (fun bg => wrong_bad (hz z0 (by simp)) (hz z1 (by simp)) hw bg) (x2 := dt d) (x3 := x3) (x8 := x8) (x9 := x9) (x10 := x10) (x11 := x11) (x12 := x12) (x13 := x13) hb3
    let s0 : Sta := mk (dt d) x3 x4 x5 x6 x7 x8 x9 x10 x11 x12 x13 bg
    let s1' : Sta := mk (dt d) x3 x4 x5 x6 x7 x8 x9 x10 x11 x12 x13 bg1
    let s1 : Sta := mk (dt d) x3 (dt (.lst (([z0, z1, z2, z3, z4] : List Str).map Dt.str))) x5 x6 x7 x8 x9 x10 x11 x12 x13 bg1
    let s2' : Sta := mk (dt d) x3 (dt (.lst (([z0, z1, z2, z3, z4] : List Str).map Dt.str))) x5 x6 x7 x8 x9 x10 x11 x12 x13 bg2
    let s2 : Sta := mk (dt d) x3 (dt (.lst (([z0, z1, z2, z3, z4] : List Str).map Dt.str))) (dt w) x6 x7 x8 x9 x10 x11 x12 x13 bg2
    let s3' : Sta := mk (dt d) x3 (dt (.lst (([z0, z1, z2, z3, z4] : List Str).map Dt.str))) (dt w) x6 x7 x8 x9 x10 x11 x12 x13 bg3
    let s3 : Sta := mk (dt d) x3 (dt (.lst (([z0, z1, z2, z3, z4] : List Str).map Dt.str))) (dt w) (dt r6) x7 x8 x9 x10 x11 x12 x13 bg3
    let s4 : Sta := mk (dt d) x3 (dt (.lst (([z0, z1, z2, z3, z4] : List Str).map Dt.str))) (dt w) (dt r6) none y8 y9 y10 y11 y12 y13 bg4
    refine ⟨s0, .nx, s4, rfl, ?_, .inl rfl, ⟨_, _, _, _, _, _, _, _, _, _, _, _, rfl, hb4⟩⟩
    unfold tBody
    refine (kseq (s1 := s1) (kasg (s1 := s1') (d := .lst (([z0, z1, z2, z3, z4] : List Str).map Dt.str)) ?_ rfl)).trans ?_
    · rw [q_names]
      exact mapp (s1 := s0) (ds := [.bag, .int (5 : Nat)]) rfl e1
    refine (kseq (s1 := s2) (kasg (s1 := s2') (d := w) ?_ rfl)).trans ?_
    · rw [q_any]
      exact mapp (s1 := s1) (ds := [.bag, .lst (wrongsD z0 z1 z2 z3)]) rfl e2
    refine (kseq (s1 := s3) (kasg (s1 := s3') (d := r6) ?_ rfl)).trans ?_
    · rw [q_any]
      exact mapp (s1 := s2) (ds := [.bag, .lst [.lst [.tup [.int 1]], .non, .lst [.tup [.int 1, .int 2], .tup [.int 1, .int 3]]]]) rfl e3
    exact klams_of (s' := s4) fun ps hps => ⟨_, e4 ps hps, rfl⟩
theorem ck_oddN {o : Dt} (h : (isLst o || isTup o) = false) (n : Int) (bg : List Dt) : FX_checked_rows_ [o, .int n, .lst []] bg = some (.inr ⟨"InvalidRow", [("index", .int 0)]⟩, bg) := by
  let s0 : Sta := ⟨[dt o, dt (.int n), dt (.lst []), none, none, none, none], bg⟩
  have c : mNotB (mB (mIsi (fun d => isLst d || isTup d) (mVar 0))) s0 = some (true, s0) := by
    show some (!(isLst o || isTup o), s0) = _
    rw [h]
    rfl
  have e : kIfX (mNotB (mB (mIsi (fun d => isLst d || isTup d) (mVar 0)))) (kRaiseF "InvalidRow" "index" (mC (.int 0))) (kVal kSkip) s0 = some (.ex ⟨"InvalidRow", [("index", .int 0)]⟩, s0) := by
    unfold kIfX
    rw [c]
    rfl
  show (kSeqX _ _ s0).bind _ = _
  rw [sq_ex e]
  rfl
open DX in
theorem tab_odd {ns : List Str} (hc : ∀ z ∈ ns, NameOk z) (hd : ns.Nodup) (hl : ns.length ≤ 3) {D : Dt} (hD : D = .lst (ns.map Dt.str) ∨ D = .tup (ns.map Dt.str)) {o : Dt} (ho : (isLst o || isTup o) = false) (bg : List Dt) :
    FX_Table_M__init__ [D, o] bg = some (⟨"InvalidRow", [("index", .int 0)]⟩, bg) := by
  have hcl : (Dt.str "key" :: ns.map Dt.str).length = ns.length + 1 := by rw [List.length_cons, List.length_map]
  let s0 : Sta := ⟨[some (.obj "Table" [] []), dt D, dt o], bg⟩
  let s1 : Sta := ⟨[some (.obj "Table" ["_columns"] [colsD ns]), dt D, dt o], bg⟩
  have e1 : DJ.kFldX 0 "Table" "_columns" (mAppX FX_all_columns (mCons (mVar 1) mNil)) s0 = some (.nx, s1) := by
    unfold DJ.kFldX mAppX
    show (Option.bind (Option.bind (FX_all_columns [D] bg) _) _) = _
    rw [show FX_all_columns [D] bg = _ from cols_x hD hc hd hl bg]
    rfl
  have ea : mCons (mVar 2) (mCons (mCall gLen (mCons (DI.mFldO 0 "Table" "_columns") mNil)) (mCons (mLst mNil) mNil)) s1 = some ([o, .int (ns.length + 1 : Nat), .lst []], s1) := by
    refine mcons (s1 := s1) rfl (mcons (s1 := s1) (x := .int (ns.length + 1 : Nat)) ?_ rfl)
    show some (Dt.int ((Dt.str "key" :: ns.map Dt.str).length : Nat), s1) = _
    rw [hcl]
  have e2 : DJ.kFldX 0 "Table" "_rows" (DJ.mCallX DT.gSorted (mAppX FX_checked_rows_ (mCons (mVar 2) (mCons (mCall gLen (mCons (DI.mFldO 0 "Table" "_columns") mNil)) (mCons (mLst mNil) mNil))))) s1 = some (.ex ⟨"InvalidRow", [("index", .int 0)]⟩, s1) := by
    unfold DJ.kFldX DJ.mCallX mAppX
    rw [ea, Option.bind_some]
    show (Option.bind (Option.bind (Option.bind (FX_checked_rows_ [o, .int (ns.length + 1 : Nat), .lst []] bg) _) _) _) = _
    rw [ck_oddN ho]
    rfl
  show (kSeqX _ _ s0).bind _ = _
  rw [sq_nx e1, e2]
  rfl
theorem odd_no {o : Dt} (h : o ∈ [Dt.non, .int 3, .str "rows"]) : (isLst o || isTup o) = false := by
  simp only [List.mem_cons, List.not_mem_nil, or_false] at h
  rcases h with rfl | rfl | rfl <;> rfl
theorem odd_rows {o : Dt} (h : o ∈ [Dt.non, .int 3, .str "rows"]) (bg : List Dt) : FX_Table_M__init__ [.lst [], o] bg = some (⟨"InvalidRow", [("index", .int 0)]⟩, bg) :=
  tab_odd (ns := []) (fun _ h => nomatch h) List.nodup_nil (by decide) (.inl rfl) (odd_no h) bg
open DX in
theorem em_bad {F : DJ.FIX} {d0 : Dt} {g : DM (List Dt)} {s : Sta} {ds : List Dt} {e : Er} (h : g s = some (ds, s)) (hl : ds.length ≤ 1000) (hF : F [.tup ds, d0] s.bag = some (e, s.bag)) : DJ.mEmX F d0 g s = some (.inr e, s) := by
  unfold DJ.mEmX
  rw [h, Option.bind_some]
  dsimp only
  rw [if_pos hl, hF]
  rfl
open DX in
theorem hB (ns : List Int) (seed : Int) (h : ns.length ≤ 63) (h0 : 0 ≤ seed) (h1 : seed < 2147483549) : ∃ s', B_law ⟨[none, some (.dat .bag)] ++ List.replicate (N_law.length - 2) none, bag0 ns seed⟩ = some (.rt (.bl true), s') := by
  obtain ⟨s', e, hI⟩ := loop_inv I turn (rngD 0 (6 : Int).toNat) ⟨[none, some (.dat .bag), none, none, none, none, none, none, none, none, none, none, none, none], bag0 ns seed⟩ ⟨_, _, _, _, _, _, _, _, _, _, _, _, rfl, bag0_ok h0 h1⟩
  obtain ⟨x2, x3, x4, x5, x6, x7, x8, x9, x10, x11, x12, x13, hs, hb⟩ := hI
  obtain ⟨sl, bg⟩ := s'
  dsimp only at hs hb
  subst hs
  obtain ⟨o, bg1, e1, ho, hb1⟩ := any_ok hb (rows := [.non, .int 3, .str "rows"]) (by show 0 < 3; decide) (by show 3 < 1000000; decide)
  let t1 : Sta := mk x2 x3 x4 x5 x6 x7 x8 x9 x10 x11 x12 x13 bg1
  let t2 : Sta := mk x2 (dt o) x4 x5 x6 x7 x8 x9 x10 x11 x12 x13 bg1
  let D : Dt := .lst [.tup [.str "InvalidRow", .tup [.int 0]], .tup [.str "InvalidColumns", .tup []]]
  have aN : ∀ bg, F_are_names [.tup [.str "a", .str "a"], .int 3] bg = some (.bl false, bg) := fun bg => same_bad (ns := [("a" : Str), ("a" : Str)]) (fun y hy => by
    simp at hy
    rw [hy]
    exact ⟨fun c hc => by rw [List.mem_singleton.mp (show c ∈ [97] from hc)]; exact ⟨by decide, by decide⟩, by decide, by decide, by decide +kernel⟩) (by show 2 ≤ 3; decide) (cnt_two _) (.inr rfl) bg
  have m1 : mTry [("InvalidRow", "index")] "" (DJ.mMakeX FX_Table_M__init__ [] (mCons (mLst mNil) (mCons (mVar 3) mNil))) ⟨t2.sl.map datOnly, bg1⟩ = some (.tup [.str "InvalidRow", .tup [.int 0]], ⟨t2.sl.map datOnly, bg1⟩) := by
    unfold mTry
    rw [mk_bad (s := ⟨t2.sl.map datOnly, bg1⟩) (ds := [.lst [], o]) rfl (odd_rows ho bg1)]
    rfl
  have m2 : mTry [("InvalidRow", "index")] "" (DJ.mEmX FX_Table_M__init__ (.tup []) (mCons (mC (.str "a")) (mCons (mC (.str "a")) mNil))) ⟨t2.sl.map datOnly, bg1⟩ = some (.tup [.str "InvalidColumns", .tup []], ⟨t2.sl.map datOnly, bg1⟩) := by
    refine try_c ?_
    exact em_bad (s := ⟨t2.sl.map datOnly, bg1⟩) (ds := [.str "a", .str "a"]) rfl (by show 2 ≤ 1000; decide) (tab_bad aN bg1 (.tup []))
  have et : mTries [("InvalidRow", "index")] "" [(DJ.mMakeX FX_Table_M__init__ [] (mCons (mLst mNil) (mCons (mVar 3) mNil))), (DJ.mEmX FX_Table_M__init__ (.tup []) (mCons (mC (.str "a")) (mCons (mC (.str "a")) mNil)))] t2 = some (D, t2) := by
    unfold mTries
    show (Option.bind (triesD [("InvalidRow", "index")] "" (t2.sl.map datOnly) [(DJ.mMakeX FX_Table_M__init__ [] (mCons (mLst mNil) (mCons (mVar 3) mNil))), (DJ.mEmX FX_Table_M__init__ (.tup []) (mCons (mC (.str "a")) (mCons (mC (.str "a")) mNil)))] bg1) _) = _
    unfold triesD
    rw [m1, Option.bind_some]
    dsimp only
    unfold triesD
    rw [m2]
    rfl
  unfold B_law
  refine ⟨t2, (kseq (kfor_rng (by decide) (by decide) e)).trans ((kseq (s1 := t2) (kasg (s1 := t1) (d := o) ?_ rfl)).trans (kret ?_))⟩
  · rw [q_any]
    exact mapp (s1 := mk x2 x3 x4 x5 x6 x7 x8 x9 x10 x11 x12 x13 bg) (ds := [.bag, .lst [.non, .int 3, .str "rows"]]) rfl e1
  · refine mapp (s1 := t2) (ds := [D, D]) (bg := bg1) (mcons et (mcons (s1 := t2) (x := D) ?_ rfl)) (by rw [q_like]; exact like_refl 5 D bg1 (by decide +kernel))
    rfl
end Laws
set_option maxHeartbeats 0 in
theorem all_mk {l : PySem.W.OpenLaw} {w : World} {K : PySem.W.Frag} {h : Heap} {mg : Str → Option Value} {C_Table : Addr} {C_Procedure : Addr} {C_Rules : Addr} {oE6 : Value} {dE6 : Option Addr} {iE6 : Array Value} {nE6 : Nat} {sE6 : Array (Option Value)} {pp7 : Addr} {rs7 : List Value} {kD9 er9 ev9 : Addr} {oE9 : Value} {dE9 : Option Addr} {iE9 : Array Value} {nE9 : Nat} {sE9 : Array (Option Value)} {tv6 ev6 : Addr} {nT6 : Nat} {oT6 : Value} {oTd6 : Option Addr} {slT6 : Array (Option Value)} {fa f0 f1 f2 f3 f4 f5 f6 f7 f8 f9 f10 f11 f12 f13 f14 f15 f16 f17 f18 f19 f20 f21 f22 : Addr} {od0 an0 od1 an1 od2 an2 od3 an3 od4 an4 od5 an5 od6 an6 od7 an7 od8 an8 od9 an9 od10 an10 od11 an11 od12 an12 od13 an13 od14 an14 od15 an15 od16 an16 od17 an17 od18 an18 od19 an19 od20 an20 od21 an21 od22 an22 : Option Addr} {sl0 sl1 sl2 sl3 sl4 sl5 sl6 sl7 sl8 sl9 sl10 sl11 sl12 sl13 sl14 sl15 sl16 sl17 sl18 sl19 sl20 sl21 sl22 : Array (Option Value)} {oc0 kV0 dc0 pm0 ct0 cd0 oc1 kV1 dc1 pm1 ct1 cd1 oc2 kV2 dc2 pm2 ct2 cd2 oc3 kV3 dc3 pm3 ct3 cd3 oc4 kV4 dc4 pm4 ct4 cd4 oc5 kV5 dc5 pm5 ct5 cd5 oc6 kV6 dc6 pm6 ct6 cd6 oc7 kV7 dc7 pm7 ct7 cd7 oc8 kV8 dc8 pm8 ct8 cd8 oc9 kV9 dc9 pm9 ct9 cd9 oc10 kV10 dc10 pm10 ct10 cd10 oc11 kV11 dc11 pm11 ct11 cd11 oc12 kV12 dc12 pm12 ct12 cd12 oc13 kV13 dc13 pm13 ct13 cd13 oc14 kV14 dc14 pm14 ct14 cd14 oc15 kV15 dc15 pm15 ct15 cd15 oc16 kV16 dc16 pm16 ct16 cd16 oc17 kV17 dc17 pm17 ct17 cd17 oc18 kV18 dc18 pm18 ct18 cd18 oc19 kV19 dc19 pm19 ct19 cd19 oc20 kV20 dc20 pm20 ct20 cd20 oc21 kV21 dc21 pm21 ct21 cd21 oc22 kV22 dc22 pm22 ct22 : Value} {cl_law Pt_law : Addr} {T1 T2 T3 fI : Addr} {odI anI : Option Addr} {slI : Array (Option Value)} {ocI kVI dcI pmI cdI ctI : Value} {C_InvalidColumns N_InvalidColumns : Addr} {nm_InvalidColumns q_InvalidColumns : Str} {bs_InvalidColumns bm_InvalidColumns : List Value} {sn_InvalidColumns : List Str} {sub_InvalidColumns : List Value} {ab_InvalidColumns : Bool} {col_InvalidColumns : Option Bool} {dd_InvalidColumns : Option Addr} {k0_InvalidColumns k1_InvalidColumns k2_InvalidColumns k3_InvalidColumns k5_InvalidColumns : Option Value} {C_InvalidRow N_InvalidRow fI_InvalidRow cc_InvalidRow cda_InvalidRow : Addr} {nm_InvalidRow q_InvalidRow fi_InvalidRow : Str} {bs_InvalidRow bm_InvalidRow : List Value} {sn_InvalidRow : List Str} {sub_InvalidRow : List Value} {ab_InvalidRow : Bool} {col_InvalidRow : Option Bool} {dd_InvalidRow : Option Addr} {k0_InvalidRow k1_InvalidRow k2_InvalidRow k3_InvalidRow k5_InvalidRow : Option Value} {kV_InvalidRow dc_InvalidRow pm_InvalidRow ct_InvalidRow oc_InvalidRow cl_InvalidRow ccl_InvalidRow : Value} {an_InvalidRow od_InvalidRow cld_InvalidRow cdd_InvalidRow : Option Addr} {osl_InvalidRow csl_InvalidRow ccs_InvalidRow : Array (Option Value)} {vs_InvalidRow : Array Value} {tf_InvalidRow : Tok} {tk_BOUND : Tok} {tk_MOST_LETTERS : Tok} {tk_MOST_COLUMNS : Tok} {ta_RESERVED : Addr} {to_RESERVED : Value} {td_RESERVED : Option Addr} {ti_RESERVED : Array Value} {tn_RESERVED : Nat} {ts_RESERVED : Array (Option Value)} {tk_DEEPEST : Tok} {tk_MOST_OWN : Tok} {tk_MOST_IN_ALL : Tok} {tk_DEEPEST_STATEMENT : Tok} {tk_MOST_RETURNED : Tok} {ta_ENDS : Addr} {to_ENDS : Value} {td_ENDS : Option Addr} {ti_ENDS : Array Value} {tn_ENDS : Nat} {ts_ENDS : Array (Option Value)} {ta_SIDES : Addr} {to_SIDES : Value} {td_SIDES : Option Addr} {ti_SIDES : Array Value} {tn_SIDES : Nat} {ts_SIDES : Array (Option Value)} {ta_READ : Addr} {to_READ : Value} {td_READ : Option Addr} {ti_READ : Array Value} {tn_READ : Nat} {ts_READ : Array (Option Value)} {ta_READ_BY_ROW : Addr} {to_READ_BY_ROW : Value} {td_READ_BY_ROW : Option Addr} {ti_READ_BY_ROW : Array Value} {tn_READ_BY_ROW : Nat} {ts_READ_BY_ROW : Array (Option Value)} {ta_FAILING : Addr} {to_FAILING : Value} {td_FAILING : Option Addr} {ti_FAILING : Array Value} {tn_FAILING : Nat} {ts_FAILING : Array (Option Value)} {ta_CHANGING : Addr} {to_CHANGING : Value} {td_CHANGING : Option Addr} {ti_CHANGING : Array Value} {tn_CHANGING : Nat} {ts_CHANGING : Array (Option Value)} {tk_MOST_ARGUMENTS : Tok} {tk_MOST_RULES : Tok} {ta_ROW_FORMS : Addr} {to_ROW_FORMS : Value} {td_ROW_FORMS : Option Addr} {ti_ROW_FORMS : Array Value} {tn_ROW_FORMS : Nat} {ts_ROW_FORMS : Array (Option Value)} {ta_NEXT_FORMS : Addr} {to_NEXT_FORMS : Value} {td_NEXT_FORMS : Option Addr} {ti_NEXT_FORMS : Array Value} {tn_NEXT_FORMS : Nat} {ts_NEXT_FORMS : Array (Option Value)} {da_SIGNS : Addr} {de_SIGNS : Array DictEntry} {dn_SIGNS : Nat} (X : K.In h) (G : h.Ns mainGlobals mg) (hfa : mg "law" = some (.ref fa))
    (yK_Rules : PySem.W.nsIn K mainGlobals "Rules" = some (some (.ref C_Rules))) (yA_Rules : PySem.W.plainGet K C_Rules Str.empty = true) (yB_Rules : PySem.W.hasDictIn K C_Rules = true) (yD_Rules : PySem.W.plainOver K C_Rules = true) (yE_Rules : PySem.W.findIn K (.ref C_Rules) "__setattr__" = some (some (.builtin "object.__setattr__"))) (yF_Rules : PySem.W.findIn K (.ref C_Rules) "__class__" = some (some (.builtin "object.__class__"))) (yG_Rules : PySem.W.specialIn K (.builtin "object.__class__") "__get__" = some (some (.builtin "getset_descriptor.__get__"))) (yH_Rules : PySem.W.takesIn K (.builtin "object.__class__") = some true) (yI_Rules : PySem.W.mroIn K C_Rules (.type "object") = some true) (yJ_Rules : DB.kitsB K C_Rules = true) (yM_Rules : PySem.W.makesIn K C_Rules = true) (yP_Rules : PySem.W.keepIn K (.ref C_Rules) = true) (yS_Rules : PySem.W.selfFirst K C_Rules = true) (yN_Rules : PySem.W.notFirst K C_Rules (.ref C_Rules) = true)
    (yK_Procedure : PySem.W.nsIn K mainGlobals "Procedure" = some (some (.ref C_Procedure))) (yA_Procedure : PySem.W.plainGet K C_Procedure Str.empty = true) (yB_Procedure : PySem.W.hasDictIn K C_Procedure = true) (yD_Procedure : PySem.W.plainOver K C_Procedure = true) (yE_Procedure : PySem.W.findIn K (.ref C_Procedure) "__setattr__" = some (some (.builtin "object.__setattr__"))) (yF_Procedure : PySem.W.findIn K (.ref C_Procedure) "__class__" = some (some (.builtin "object.__class__"))) (yG_Procedure : PySem.W.specialIn K (.builtin "object.__class__") "__get__" = some (some (.builtin "getset_descriptor.__get__"))) (yH_Procedure : PySem.W.takesIn K (.builtin "object.__class__") = some true) (yI_Procedure : PySem.W.mroIn K C_Procedure (.type "object") = some true) (yJ_Procedure : DB.kitsB K C_Procedure = true) (yM_Procedure : PySem.W.makesIn K C_Procedure = true) (yP_Procedure : PySem.W.keepIn K (.ref C_Procedure) = true) (yS_Procedure : PySem.W.selfFirst K C_Procedure = true) (yN_Procedure : PySem.W.notFirst K C_Procedure (.ref C_Procedure) = true)
    (yK_Table : PySem.W.nsIn K mainGlobals "Table" = some (some (.ref C_Table))) (yA_Table : PySem.W.plainGet K C_Table Str.empty = true) (yB_Table : PySem.W.hasDictIn K C_Table = true) (yD_Table : PySem.W.plainOver K C_Table = true) (yE_Table : PySem.W.findIn K (.ref C_Table) "__setattr__" = some (some (.builtin "object.__setattr__"))) (yF_Table : PySem.W.findIn K (.ref C_Table) "__class__" = some (some (.builtin "object.__class__"))) (yG_Table : PySem.W.specialIn K (.builtin "object.__class__") "__get__" = some (some (.builtin "getset_descriptor.__get__"))) (yH_Table : PySem.W.takesIn K (.builtin "object.__class__") = some true) (yI_Table : PySem.W.mroIn K C_Table (.type "object") = some true) (yJ_Table : DB.kitsB K C_Table = true) (yM_Table : PySem.W.makesIn K C_Table = true) (yP_Table : PySem.W.keepIn K (.ref C_Table) = true) (yS_Table : PySem.W.selfFirst K C_Table = true) (yN_Table : PySem.W.notFirst K C_Table (.ref C_Table) = true)
    (a0 : PySem.W.nsIn K mainGlobals "is_name" = some (some (.ref f0))) (l0 : K.lookup f0 = some ⟨oc0, od0, .func (PySem.W.fnOf "is_name" "is_name" (defArgs s_is_name) (defBody s_is_name) (defScope s_is_name) .none kV0 dc0 pm0 an0 cd0 ct0), sl0⟩) (c0 : PySem.W.codeIn K cd0 "is_name" = true) (k0 : PySem.W.keepIn K (.ref f0) = true)
    (a1 : PySem.W.nsIn K mainGlobals "are_names" = some (some (.ref f1))) (l1 : K.lookup f1 = some ⟨oc1, od1, .func (PySem.W.fnOf "are_names" "are_names" (defArgs s_are_names) (defBody s_are_names) (defScope s_are_names) .none kV1 dc1 pm1 an1 cd1 ct1), sl1⟩) (c1 : PySem.W.codeIn K cd1 "are_names" = true) (k1 : PySem.W.keepIn K (.ref f1) = true)
    (a2 : PySem.W.nsIn K mainGlobals "all_columns" = some (some (.ref f2))) (l2 : K.lookup f2 = some ⟨oc2, od2, .func (PySem.W.fnOf "all_columns" "all_columns" (defArgs s_all_columns) (defBody s_all_columns) (defScope s_all_columns) .none kV2 dc2 pm2 an2 cd2 ct2), sl2⟩) (c2 : PySem.W.codeIn K cd2 "all_columns" = true) (k2 : PySem.W.keepIn K (.ref f2) = true)
    (a3 : PySem.W.nsIn K mainGlobals "is_whole" = some (some (.ref f3))) (l3 : K.lookup f3 = some ⟨oc3, od3, .func (PySem.W.fnOf "is_whole" "is_whole" (defArgs s_is_whole) (defBody s_is_whole) (defScope s_is_whole) .none kV3 dc3 pm3 an3 cd3 ct3), sl3⟩) (c3 : PySem.W.codeIn K cd3 "is_whole" = true) (k3 : PySem.W.keepIn K (.ref f3) = true)
    (a4 : PySem.W.nsIn K mainGlobals "_is_row" = some (some (.ref f4))) (l4 : K.lookup f4 = some ⟨oc4, od4, .func (PySem.W.fnOf "_is_row" "_is_row" (defArgs s_is_row_) (defBody s_is_row_) (defScope s_is_row_) .none kV4 dc4 pm4 an4 cd4 ct4), sl4⟩) (c4 : PySem.W.codeIn K cd4 "_is_row" = true) (k4 : PySem.W.keepIn K (.ref f4) = true)
    (a5 : PySem.W.nsIn K mainGlobals "_checked_rows" = some (some (.ref f5))) (l5 : K.lookup f5 = some ⟨oc5, od5, .func (PySem.W.fnOf "_checked_rows" "_checked_rows" (defArgs s_checked_rows_) (defBody s_checked_rows_) (defScope s_checked_rows_) .none kV5 dc5 pm5 an5 cd5 ct5), sl5⟩) (c5 : PySem.W.codeIn K cd5 "_checked_rows" = true) (k5 : PySem.W.keepIn K (.ref f5) = true)
    (a6 : PySem.W.findIn K (.ref C_Table) "__init__" = some (some (.ref f6))) (l6 : K.lookup f6 = some ⟨oc6, od6, .func (PySem.W.fnOf "__init__" "Table.__init__" (defArgs s_Table_M__init__) (defBody s_Table_M__init__) (defScope s_Table_M__init__) (.ref tv6) kV6 dc6 pm6 an6 cd6 ct6), sl6⟩) (c6 : PySem.W.codeIn K cd6 "Table.__init__" = true) (k6 : PySem.W.keepIn K (.ref f6) = true) (g6 : PySem.W.isFn K (.ref f6) = true)
    (lT6 : K.lookup tv6 = some ⟨oT6, oTd6, .seq #[.ref ev6] nT6, slT6⟩)
    (lE6 : K.lookup ev6 = some ⟨oE6, dE6, .seq iE6 nE6, sE6⟩) (vE6 : oE6 = .type "tuple") (wE6 : iE6.size ≤ sizeLine) (xE6 : Vals [] iE6.toList)
    (yp7 : PySem.W.findCls K (.ref C_Table) (.type "type") "empty" = some (.get (.builtin "classmethod.__get__") (.ref pp7) .none (.ref C_Table))) (yr7 : PySem.W.recIn K pp7 "classmethod" = some (.ref f7 :: rs7)) (yg7 : PySem.W.fnIn K f7 = true) (yd7 : PySem.W.readsIn K C_Table (.type "type") = true) (ya7 : PySem.W.specialIn K (.ref C_Table) "__getattribute__" = some (some (.builtin "type.__getattribute__")))
    (l7 : K.lookup f7 = some ⟨oc7, od7, .func (PySem.W.fnOf "empty" "Table.empty" (defArgs s_Table_Mempty) (defBody s_Table_Mempty) (defScope s_Table_Mempty) .none kV7 dc7 pm7 an7 cd7 ct7), sl7⟩) (c7 : PySem.W.codeIn K cd7 "Table.empty" = true) (k7 : PySem.W.keepIn K (.ref f7) = true)
    (a8 : PySem.W.findIn K (.ref C_Procedure) "__init__" = some (some (.ref f8))) (l8 : K.lookup f8 = some ⟨oc8, od8, .func (PySem.W.fnOf "__init__" "Procedure.__init__" (defArgs s_Procedure_M__init__) (defBody s_Procedure_M__init__) (defScope s_Procedure_M__init__) .none kV8 dc8 pm8 an8 cd8 ct8), sl8⟩) (c8 : PySem.W.codeIn K cd8 "Procedure.__init__" = true) (k8 : PySem.W.keepIn K (.ref f8) = true) (g8 : PySem.W.isFn K (.ref f8) = true)
    (a9 : PySem.W.findIn K (.ref C_Rules) "__init__" = some (some (.ref f9))) (l9 : K.lookup f9 = some ⟨oc9, od9, .func (PySem.W.fnOf "__init__" "Rules.__init__" (defArgs s_Rules_M__init__) (defBody s_Rules_M__init__) (defScope s_Rules_M__init__) .none (.ref kD9) dc9 pm9 an9 cd9 ct9), sl9⟩) (c9 : PySem.W.codeIn K cd9 "Rules.__init__" = true) (k9 : PySem.W.keepIn K (.ref f9) = true) (g9 : PySem.W.isFn K (.ref f9) = true) (yr9 : PySem.W.nsIn K kD9 "rows" = some (some (.ref er9))) (ys9 : PySem.W.nsIn K kD9 "nexts" = some (some (.ref ev9))) (lE9 : K.lookup ev9 = some ⟨oE9, dE9, .seq iE9 nE9, sE9⟩) (vE9 : oE9 = .type "tuple") (wE9 : iE9.size ≤ sizeLine) (xE9 : Vals [] iE9.toList)
    (a10 : PySem.W.nsIn K mainGlobals "_law_field" = some (some (.ref f10))) (l10 : K.lookup f10 = some ⟨oc10, od10, .func (PySem.W.fnOf "_law_field" "_law_field" (defArgs s_Lfield) (defBody s_Lfield) (defScope s_Lfield) .none kV10 dc10 pm10 an10 cd10 ct10), sl10⟩) (c10 : PySem.W.codeIn K cd10 "_law_field" = true) (k10 : PySem.W.keepIn K (.ref f10) = true)
    (a11 : PySem.W.nsIn K mainGlobals "_law_draws" = some (some (.ref f11))) (l11 : K.lookup f11 = some ⟨oc11, od11, .func (PySem.W.fnOf "_law_draws" "_law_draws" (defArgs s_Ldraws) (defBody s_Ldraws) (defScope s_Ldraws) .none kV11 dc11 pm11 an11 cd11 ct11), sl11⟩) (c11 : PySem.W.codeIn K cd11 "_law_draws" = true) (k11 : PySem.W.keepIn K (.ref f11) = true)
    (a12 : PySem.W.nsIn K mainGlobals "_law_pull" = some (some (.ref f12))) (l12 : K.lookup f12 = some ⟨oc12, od12, .func (PySem.W.fnOf "_law_pull" "_law_pull" (defArgs s_Lpull) (defBody s_Lpull) (defScope s_Lpull) .none kV12 dc12 pm12 an12 cd12 ct12), sl12⟩) (c12 : PySem.W.codeIn K cd12 "_law_pull" = true) (k12 : PySem.W.keepIn K (.ref f12) = true)
    (a13 : PySem.W.nsIn K mainGlobals "_law_any" = some (some (.ref f13))) (l13 : K.lookup f13 = some ⟨oc13, od13, .func (PySem.W.fnOf "_law_any" "_law_any" (defArgs s_Lany) (defBody s_Lany) (defScope s_Lany) .none kV13 dc13 pm13 an13 cd13 ct13), sl13⟩) (c13 : PySem.W.codeIn K cd13 "_law_any" = true) (k13 : PySem.W.keepIn K (.ref f13) = true)
    (a14 : PySem.W.nsIn K mainGlobals "_law_mixed" = some (some (.ref f14))) (l14 : K.lookup f14 = some ⟨oc14, od14, .func (PySem.W.fnOf "_law_mixed" "_law_mixed" (defArgs s_Lmixed) (defBody s_Lmixed) (defScope s_Lmixed) .none kV14 dc14 pm14 an14 cd14 ct14), sl14⟩) (c14 : PySem.W.codeIn K cd14 "_law_mixed" = true) (k14 : PySem.W.keepIn K (.ref f14) = true)
    (a15 : PySem.W.nsIn K mainGlobals "_law_like" = some (some (.ref f15))) (l15 : K.lookup f15 = some ⟨oc15, od15, .func (PySem.W.fnOf "_law_like" "_law_like" (defArgs s_Llike) (defBody s_Llike) (defScope s_Llike) .none kV15 dc15 pm15 an15 cd15 ct15), sl15⟩) (c15 : PySem.W.codeIn K cd15 "_law_like" = true) (k15 : PySem.W.keepIn K (.ref f15) = true)
    (a16 : PySem.W.nsIn K mainGlobals "_law_try" = some (some (.ref f16))) (l16 : K.lookup f16 = some ⟨oc16, od16, .func (PySem.W.fnOf "_law_try" "_law_try" (defArgs s_Ltry) (defBody s_Ltry) (defScope s_Ltry) .none kV16 dc16 pm16 an16 cd16 ct16), sl16⟩) (c16 : PySem.W.codeIn K cd16 "_law_try" = true) (k16 : PySem.W.keepIn K (.ref f16) = true)
    (a17 : PySem.W.nsIn K mainGlobals "_law_tries" = some (some (.ref f17))) (l17 : K.lookup f17 = some ⟨oc17, od17, .func (PySem.W.fnOf "_law_tries" "_law_tries" (defArgs s_Ltries) (defBody s_Ltries) (defScope s_Ltries) .none kV17 dc17 pm17 an17 cd17 ct17), sl17⟩) (c17 : PySem.W.codeIn K cd17 "_law_tries" = true) (k17 : PySem.W.keepIn K (.ref f17) = true)
    (a18 : PySem.W.nsIn K mainGlobals "_law_reserved" = some (some (.ref f18))) (l18 : K.lookup f18 = some ⟨oc18, od18, .func (PySem.W.fnOf "_law_reserved" "_law_reserved" (defArgs s_Lreserved) (defBody s_Lreserved) (defScope s_Lreserved) .none kV18 dc18 pm18 an18 cd18 ct18), sl18⟩) (c18 : PySem.W.codeIn K cd18 "_law_reserved" = true) (k18 : PySem.W.keepIn K (.ref f18) = true)
    (a19 : PySem.W.nsIn K mainGlobals "_law_new_names" = some (some (.ref f19))) (l19 : K.lookup f19 = some ⟨oc19, od19, .func (PySem.W.fnOf "_law_new_names" "_law_new_names" (defArgs s_Lnew_names) (defBody s_Lnew_names) (defScope s_Lnew_names) .none kV19 dc19 pm19 an19 cd19 ct19), sl19⟩) (c19 : PySem.W.codeIn K cd19 "_law_new_names" = true) (k19 : PySem.W.keepIn K (.ref f19) = true)
    (a20 : PySem.W.nsIn K mainGlobals "_law_near" = some (some (.ref f20))) (l20 : K.lookup f20 = some ⟨oc20, od20, .func (PySem.W.fnOf "_law_near" "_law_near" (defArgs s_Lnear) (defBody s_Lnear) (defScope s_Lnear) .none kV20 dc20 pm20 an20 cd20 ct20), sl20⟩) (c20 : PySem.W.codeIn K cd20 "_law_near" = true) (k20 : PySem.W.keepIn K (.ref f20) = true)
    (a21 : PySem.W.nsIn K mainGlobals "_law_rows" = some (some (.ref f21))) (l21 : K.lookup f21 = some ⟨oc21, od21, .func (PySem.W.fnOf "_law_rows" "_law_rows" (defArgs s_Lrows) (defBody s_Lrows) (defScope s_Lrows) .none kV21 dc21 pm21 an21 cd21 ct21), sl21⟩) (c21 : PySem.W.codeIn K cd21 "_law_rows" = true) (k21 : PySem.W.keepIn K (.ref f21) = true)
    (a22 : PySem.W.nsIn K mainGlobals "law" = some (some (.ref f22))) (l22 : K.lookup f22 = some ⟨oc22, od22, .func (PySem.W.fnOf "law" "law" (defArgs s_law) (defBody s_law) (defScope s_law) .none kV22 dc22 pm22 an22 (.ref cl_law) ct22), sl22⟩) (c22 : PySem.W.codeIn K (.ref cl_law) "law" = true) (k22 : PySem.W.keepIn K (.ref f22) = true)
    (yf_Table__columns : PySem.W.findIn K (.ref C_Table) "_columns" = some none)
    (yf_Table__rows : PySem.W.findIn K (.ref C_Table) "_rows" = some none)
    (yk_Table : PySem.W.kitOne K (.type "list") (.ref C_Table) = some false)
    (yf_Procedure__columns : PySem.W.findIn K (.ref C_Procedure) "_columns" = some none)
    (yk_Procedure : PySem.W.kitOne K (.type "list") (.ref C_Procedure) = some false)
    (yf_Rules__columns : PySem.W.findIn K (.ref C_Rules) "_columns" = some none)
    (yk_Rules : PySem.W.kitOne K (.type "list") (.ref C_Rules) = some false)
    (z_all : PySem.W.nsIn K mainGlobals "all" = some none)
    (z_bool : PySem.W.nsIn K mainGlobals "bool" = some none)
    (z_enumerate : PySem.W.nsIn K mainGlobals "enumerate" = some none)
    (z_int : PySem.W.nsIn K mainGlobals "int" = some none)
    (z_isinstance : PySem.W.nsIn K mainGlobals "isinstance" = some none)
    (z_len : PySem.W.nsIn K mainGlobals "len" = some none)
    (z_list : PySem.W.nsIn K mainGlobals "list" = some none)
    (z_range : PySem.W.nsIn K mainGlobals "range" = some none)
    (z_set : PySem.W.nsIn K mainGlobals "set" = some none)
    (z_sorted : PySem.W.nsIn K mainGlobals "sorted" = some none)
    (z_str : PySem.W.nsIn K mainGlobals "str" = some none)
    (z_tuple : PySem.W.nsIn K mainGlobals "tuple" = some none)
    (z_zip : PySem.W.nsIn K mainGlobals "zip" = some none)
    (yT1 : PySem.W.nsIn K mainGlobals "TableError" = some (some (.ref T1)))
    (yT2 : PySem.W.nsIn K mainGlobals "Missing" = some (some (.ref T2)))
    (yT3 : PySem.W.nsIn K mainGlobals "NothingLeft" = some (some (.ref T3)))
    (yI : PySem.W.findIn K (.ref T1) "__init__" = some (some (.ref fI)))
    (ya_InvalidColumns : PySem.W.nsIn K mainGlobals "InvalidColumns" = some (some (.ref C_InvalidColumns))) (ye_InvalidColumns : PySem.W.findIn K (.ref C_InvalidColumns) "__init__" = some (some (.ref fI)))
    (lI : K.lookup fI = some ⟨ocI, odI, .func (PySem.W.fnOf "__init__" "TableError.__init__" (defArgs s_init) (defBody s_init) (defScope s_init) .none kVI dcI pmI anI cdI ctI), slI⟩) (cI : PySem.W.codeIn K cdI "TableError.__init__" = true) (kI : PySem.W.keepIn K (.ref fI) = true) (fT : PySem.W.typeIn K (.ref fI) = some (.type "function"))
    (ya_InvalidRow : PySem.W.nsIn K mainGlobals "InvalidRow" = some (some (.ref C_InvalidRow))) (ye_InvalidRow : PySem.W.findIn K (.ref C_InvalidRow) "__init__" = some (some (.ref fI_InvalidRow)))
    (yb_InvalidColumns : DX.ErrB K C_InvalidColumns "InvalidColumns" T1 T2 T3) (yc_InvalidColumns : K.lookup C_InvalidColumns = some (excClassObj nm_InvalidColumns q_InvalidColumns C_InvalidColumns N_InvalidColumns bs_InvalidColumns bm_InvalidColumns true sn_InvalidColumns sub_InvalidColumns ab_InvalidColumns col_InvalidColumns dd_InvalidColumns k0_InvalidColumns k1_InvalidColumns k2_InvalidColumns k3_InvalidColumns k5_InvalidColumns "ValueError.__new__")) (yd_InvalidColumns : PySem.HandSPX.refsVE bm_InvalidColumns = true)
    (ysT : (l.prog.main.scope.names.lookup ("super" : Str)).isSome = false) (ysS : PySem.W.nsIn K mainGlobals "super" = some none) (ysA : PySem.W.nsIn K cStatics "thirdparty.any" = some none) (yfn : PySem.W.fnIn K fI = true)
    (yb_InvalidRow : DX.ErrB K C_InvalidRow "InvalidRow" T1 T2 T3) (yc_InvalidRow : K.lookup C_InvalidRow = some (excClassObj nm_InvalidRow q_InvalidRow C_InvalidRow N_InvalidRow bs_InvalidRow bm_InvalidRow true sn_InvalidRow sub_InvalidRow ab_InvalidRow col_InvalidRow dd_InvalidRow k0_InvalidRow k1_InvalidRow k2_InvalidRow k3_InvalidRow k5_InvalidRow "ValueError.__new__")) (yd_InvalidRow : PySem.HandSPX.refsVE bm_InvalidRow = true)
    (yf_InvalidRow : PySem.W.typeIn K (.ref fI_InvalidRow) = some (.type "function")) (yl_InvalidRow : K.lookup fI_InvalidRow = some ⟨oc_InvalidRow, od_InvalidRow, .func (PySem.W.ksFn "__init__" "InvalidRow.__init__" (defArgs si_InvalidRow) (defBody si_InvalidRow) (defScope si_InvalidRow) .none kV_InvalidRow dc_InvalidRow pm_InvalidRow an_InvalidRow (.ref cda_InvalidRow) ct_InvalidRow cc_InvalidRow), osl_InvalidRow⟩) (yg_InvalidRow : PySem.W.codeIn K (.ref cda_InvalidRow) "InvalidRow.__init__" = true)
    (yh_InvalidRow : K.lookup cda_InvalidRow = some ⟨ccl_InvalidRow, cdd_InvalidRow, .fields vs_InvalidRow, ccs_InvalidRow⟩) (yi_InvalidRow : vs_InvalidRow[2]? = some (.str fi_InvalidRow tf_InvalidRow)) (yj_InvalidRow : ((l.prog.main.file : Str) == fi_InvalidRow) = true) (yk_InvalidRow : K.lookup cc_InvalidRow = some ⟨cl_InvalidRow, cld_InvalidRow, .cell (some (.ref C_InvalidRow)), csl_InvalidRow⟩) (ym_InvalidRow : PySem.W.mroIn K C_InvalidRow (.ref C_InvalidRow) = some true) (yn_InvalidRow : PySem.W.ks_superIn K C_InvalidRow C_InvalidRow "__init__" = some (some (.ref fI)))
    (tb_law : DX.tabOf K cl_law = some Pt_law) (ch_law : PySem.W.codeHdIn K cl_law Pt_law = true) (ht_law : h.get? Pt_law = some { cls := .none, data := .fields #[] }) (nt_law : K.lookup Pt_law = none)
    (yuq : ∀ p ∈ ([(Pt_law, ((("law" : Str) ++ ".<locals>.") ++ "<lambda>"))] : List (Addr × Str)), ∀ r ∈ ([(Pt_law, ((("law" : Str) ++ ".<locals>.") ++ "<lambda>"))] : List (Addr × Str)), p.1 = r.1 → p.2 = r.2)
    (t_BOUND : PySem.W.nsIn K mainGlobals "BOUND" = some (some (.int 1000000000000000000000000000000 tk_BOUND)))
    (t_MOST_LETTERS : PySem.W.nsIn K mainGlobals "MOST_LETTERS" = some (some (.int 6 tk_MOST_LETTERS)))
    (t_MOST_COLUMNS : PySem.W.nsIn K mainGlobals "MOST_COLUMNS" = some (some (.int 3 tk_MOST_COLUMNS)))
    (t_RESERVED : PySem.W.nsIn K mainGlobals "RESERVED" = some (some (.ref ta_RESERVED))) (u_RESERVED : K.lookup ta_RESERVED = some ⟨to_RESERVED, td_RESERVED, .seq ti_RESERVED tn_RESERVED, ts_RESERVED⟩) (v_RESERVED : to_RESERVED = .type "tuple") (w_RESERVED : ti_RESERVED.size ≤ sizeLine) (x_RESERVED : Vals [V.str "and", V.str "found", V.str "key", V.str "next", V.str "not", V.str "or", V.str "own", V.str "set", V.str "true", V.str "where"] ti_RESERVED.toList)
    (t_DEEPEST : PySem.W.nsIn K mainGlobals "DEEPEST" = some (some (.int 6 tk_DEEPEST)))
    (t_MOST_OWN : PySem.W.nsIn K mainGlobals "MOST_OWN" = some (some (.int 12 tk_MOST_OWN)))
    (t_MOST_IN_ALL : PySem.W.nsIn K mainGlobals "MOST_IN_ALL" = some (some (.int 24 tk_MOST_IN_ALL)))
    (t_DEEPEST_STATEMENT : PySem.W.nsIn K mainGlobals "DEEPEST_STATEMENT" = some (some (.int 3 tk_DEEPEST_STATEMENT)))
    (t_MOST_RETURNED : PySem.W.nsIn K mainGlobals "MOST_RETURNED" = some (some (.int 4 tk_MOST_RETURNED)))
    (t_ENDS : PySem.W.nsIn K mainGlobals "ENDS" = some (some (.ref ta_ENDS))) (u_ENDS : K.lookup ta_ENDS = some ⟨to_ENDS, td_ENDS, .seq ti_ENDS tn_ENDS, ts_ENDS⟩) (v_ENDS : to_ENDS = .type "tuple") (w_ENDS : ti_ENDS.size ≤ sizeLine) (x_ENDS : Vals [V.str "first", V.str "last"] ti_ENDS.toList)
    (t_SIDES : PySem.W.nsIn K mainGlobals "SIDES" = some (some (.ref ta_SIDES))) (u_SIDES : K.lookup ta_SIDES = some ⟨to_SIDES, td_SIDES, .seq ti_SIDES tn_SIDES, ts_SIDES⟩) (v_SIDES : to_SIDES = .type "tuple") (w_SIDES : ti_SIDES.size ≤ sizeLine) (x_SIDES : Vals [V.str "next", V.str "prior"] ti_SIDES.toList)
    (t_READ : PySem.W.nsIn K mainGlobals "READ" = some (some (.ref ta_READ))) (u_READ : K.lookup ta_READ = some ⟨to_READ, td_READ, .seq ti_READ tn_READ, ts_READ⟩) (v_READ : to_READ = .type "tuple") (w_READ : ti_READ.size ≤ sizeLine) (x_READ : Vals [V.str "number", V.str "name", V.str "field"] ti_READ.toList)
    (t_READ_BY_ROW : PySem.W.nsIn K mainGlobals "READ_BY_ROW" = some (some (.ref ta_READ_BY_ROW))) (u_READ_BY_ROW : K.lookup ta_READ_BY_ROW = some ⟨to_READ_BY_ROW, td_READ_BY_ROW, .seq ti_READ_BY_ROW tn_READ_BY_ROW, ts_READ_BY_ROW⟩) (v_READ_BY_ROW : to_READ_BY_ROW = .type "tuple") (w_READ_BY_ROW : ti_READ_BY_ROW.size ≤ sizeLine) (x_READ_BY_ROW : Vals [V.str "number", V.str "name", V.str "field", V.str "own"] ti_READ_BY_ROW.toList)
    (t_FAILING : PySem.W.nsIn K mainGlobals "FAILING" = some (some (.ref ta_FAILING))) (u_FAILING : K.lookup ta_FAILING = some ⟨to_FAILING, td_FAILING, .seq ti_FAILING tn_FAILING, ts_FAILING⟩) (v_FAILING : to_FAILING = .type "tuple") (w_FAILING : ti_FAILING.size ≤ sizeLine) (x_FAILING : Vals [V.str "fail", V.str "insert", V.str "move", V.str "delete", V.str "set", V.str "step"] ti_FAILING.toList)
    (t_CHANGING : PySem.W.nsIn K mainGlobals "CHANGING" = some (some (.ref ta_CHANGING))) (u_CHANGING : K.lookup ta_CHANGING = some ⟨to_CHANGING, td_CHANGING, .seq ti_CHANGING tn_CHANGING, ts_CHANGING⟩) (v_CHANGING : to_CHANGING = .type "tuple") (w_CHANGING : ti_CHANGING.size ≤ sizeLine) (x_CHANGING : Vals [V.str "insert", V.str "delete", V.str "set", V.str "clear", V.str "change", V.str "move"] ti_CHANGING.toList)
    (t_MOST_ARGUMENTS : PySem.W.nsIn K mainGlobals "MOST_ARGUMENTS" = some (some (.int 3 tk_MOST_ARGUMENTS)))
    (t_MOST_RULES : PySem.W.nsIn K mainGlobals "MOST_RULES" = some (some (.int 4 tk_MOST_RULES)))
    (t_ROW_FORMS : PySem.W.nsIn K mainGlobals "ROW_FORMS" = some (some (.ref ta_ROW_FORMS))) (u_ROW_FORMS : K.lookup ta_ROW_FORMS = some ⟨to_ROW_FORMS, td_ROW_FORMS, .seq ti_ROW_FORMS tn_ROW_FORMS, ts_ROW_FORMS⟩) (v_ROW_FORMS : to_ROW_FORMS = .type "tuple") (w_ROW_FORMS : ti_ROW_FORMS.size ≤ sizeLine) (x_ROW_FORMS : Vals [V.str "number", V.str "own"] ti_ROW_FORMS.toList)
    (t_NEXT_FORMS : PySem.W.nsIn K mainGlobals "NEXT_FORMS" = some (some (.ref ta_NEXT_FORMS))) (u_NEXT_FORMS : K.lookup ta_NEXT_FORMS = some ⟨to_NEXT_FORMS, td_NEXT_FORMS, .seq ti_NEXT_FORMS tn_NEXT_FORMS, ts_NEXT_FORMS⟩) (v_NEXT_FORMS : to_NEXT_FORMS = .type "tuple") (w_NEXT_FORMS : ti_NEXT_FORMS.size ≤ sizeLine) (x_NEXT_FORMS : Vals [V.str "number", V.str "own", V.str "next"] ti_NEXT_FORMS.toList)
    (y_SIGNS : PySem.W.nsIn K mainGlobals "SIGNS" = some (some (.ref da_SIGNS))) (u_SIGNS : K.lookup da_SIGNS = some ⟨.type "dict", none, .dict de_SIGNS dn_SIGNS, #[]⟩) (v_SIGNS : PySem.W.KeysLit w.params de_SIGNS.toList) (w_SIGNS : (da_SIGNS == sysModules) = false) (x_SIGNS : Tbl de_SIGNS.toList t_SIGNS)
    : LamX.LawAtS l w K L2.CX0 lvLaw 63 "_law_script" mg fa h := by
  have e := hfa.symm.trans (PySem.W.mg_of X G a22)
  cases e
  letI : Tabs := ⟨[(Pt_law, ((("law" : Str) ++ ".<locals>.") ++ "<lambda>"))], yuq⟩
  letI : Me := ⟨0⟩
  have F0 := fun_mk (st := s_is_name) l0 c0 k0
  have b0 := F0.binds (ps := ["value"]) fun _ _ _ _ _ _ us hl => match us, hl with | [_], _ => rfl
  have F1 := fun_mk (st := s_are_names) l1 c1 k1
  have b1 := F1.binds (ps := ["value", "most"]) fun _ _ _ _ _ _ us hl => match us, hl with | [_, _], _ => rfl
  have F2 := fun_mk (st := s_all_columns) l2 c2 k2
  have b2 := F2.binds (ps := ["columns"]) fun _ _ _ _ _ _ us hl => match us, hl with | [_], _ => rfl
  have F3 := fun_mk (st := s_is_whole) l3 c3 k3
  have b3 := F3.binds (ps := ["value"]) fun _ _ _ _ _ _ us hl => match us, hl with | [_], _ => rfl
  have F4 := fun_mk (st := s_is_row_) l4 c4 k4
  have b4 := F4.binds (ps := ["value", "many"]) fun _ _ _ _ _ _ us hl => match us, hl with | [_, _], _ => rfl
  have F5 := fun_mk (st := s_checked_rows_) l5 c5 k5
  have b5 := F5.binds (ps := ["rows", "many", "taken"]) fun _ _ _ _ _ _ us hl => match us, hl with | [_, _, _], _ => rfl
  have F6 := DB.fund_mk (st := s_Table_M__init__) l6 c6 k6 lT6
  have b6 := DI.binds_all (ps := ["self", "columns", "rows"]) F6 (by simp) fun _ _ _ _ _ _ _ us its hl h2 => match us, hl, its, h2 with | [_, _, _], _, [_], _ => ⟨_, rfl, rfl⟩
  have bd6 := DF.binds_def (ps := ["self", "columns", "rows"]) F6 (n := 2) rfl fun _ _ _ _ _ _ _ us its hl h2 => match us, hl, its, h2 with | [_, _], _, [_], _ => ⟨_, rfl, rfl⟩
  have F7 := fun_mk (st := s_Table_Mempty) l7 c7 k7
  have F8 := fun_mk (st := s_Procedure_M__init__) l8 c8 k8
  have b8 := F8.binds (ps := ["self", "columns", "arguments", "statements"]) fun _ _ _ _ _ _ us hl => match us, hl with | [_, _, _, _], _ => rfl
  have F9 := DJ.fundK_mk (st := s_Rules_M__init__) l9 c9 k9 yr9 ys9
  have kr9 := DJ.kr_of (ps := ["self", "columns", "rows", "nexts"]) F9 fun _ _ _ _ _ _ us mv ws h1 h2 h3 => match us, h1, mv, h2, ws, h3 with | [_, _], _, [_], _, [_], _ => ⟨_, _, _, _, _, _, rfl, rfl, rfl⟩
  have F10 := fun_mk (st := s_Lfield) l10 c10 k10
  have b10 := F10.binds (ps := ["_law_e"]) fun _ _ _ _ _ _ us hl => match us, hl with | [_], _ => rfl
  have F11 := fun_mk (st := s_Ldraws) l11 c11 k11
  have b11 := F11.binds (ps := ["_law_script"]) fun _ _ _ _ _ _ us hl => match us, hl with | [_], _ => rfl
  have F12 := fun_mk (st := s_Lpull) l12 c12 k12
  have b12 := F12.binds (ps := ["_law_bag", "_law_sides"]) fun _ _ _ _ _ _ us hl => match us, hl with | [_, _], _ => rfl
  have F13 := fun_mk (st := s_Lany) l13 c13 k13
  have b13 := F13.binds (ps := ["_law_bag", "_law_rows_z"]) fun _ _ _ _ _ _ us hl => match us, hl with | [_, _], _ => rfl
  have F14 := fun_mk (st := s_Lmixed) l14 c14 k14
  have b14 := F14.binds (ps := ["_law_bag", "_law_rows_z"]) fun _ _ _ _ _ _ us hl => match us, hl with | [_, _], _ => rfl
  have F15 := fun_mk (st := s_Llike) l15 c15 k15
  have b15 := F15.binds (ps := ["_law_a", "_law_b"]) fun _ _ _ _ _ _ us hl => match us, hl with | [_, _], _ => rfl
  have F16 := fun_mk (st := s_Ltry) l16 c16 k16
  have b16 := F16.binds (ps := ["_law_ask"]) fun _ _ _ _ _ _ us hl => match us, hl with | [_], _ => rfl
  have F17 := fun_mk (st := s_Ltries) l17 c17 k17
  have b17 := F17.binds (ps := ["_law_asks"]) fun _ _ _ _ _ _ us hl => match us, hl with | [_], _ => rfl
  have F18 := fun_mk (st := s_Lreserved) l18 c18 k18
  have b18 := F18.binds (ps := []) fun _ _ _ _ _ _ us hl => match us, hl with | [], _ => rfl
  have F19 := fun_mk (st := s_Lnew_names) l19 c19 k19
  have b19 := F19.binds (ps := ["_law_bag", "_law_many"]) fun _ _ _ _ _ _ us hl => match us, hl with | [_, _], _ => rfl
  have F20 := fun_mk (st := s_Lnear) l20 c20 k20
  have b20 := F20.binds (ps := ["_law_bag"]) fun _ _ _ _ _ _ us hl => match us, hl with | [_], _ => rfl
  have F21 := fun_mk (st := s_Lrows) l21 c21 k21
  have b21 := F21.binds (ps := ["_law_bag", "_law_columns", "_law_most"]) fun _ _ _ _ _ _ us hl => match us, hl with | [_, _, _], _ => rfl
  have F22 := fun_mk (st := s_law) l22 c22 k22
  have b22 := F22.binds (ps := ["_law_script"]) fun _ _ _ _ _ _ us hl => match us, hl with | [_], _ => rfl
  have FI := fun_mk (st := s_init) lI cI kI
  have bI := FI.binds (ps := ["self"]) fun _ _ _ _ _ _ us hl => match us, hl with | [_], _ => rfl
  refine ⟨PySem.W.fnOf "law" "law" (defArgs s_law) (defBody s_law) (defScope s_law) .none kV22 dc22 pm22 an22 (.ref cl_law) ct22, [(cl_law, Pt_law)], spLaw K, List.forall_mem_cons.mpr ⟨ht_law, (fun _ hx => nomatch hx)⟩, List.forall_mem_cons.mpr ⟨nt_law, (fun _ hx => nomatch hx)⟩, List.forall_mem_cons.mpr ⟨PySem.W.codeHd_of_K X ch_law, (fun _ hx => nomatch hx)⟩, fun s v => .of_eq rfl, fun H a ns hlen hbits hH hS => ⟨a, ns, rfl, hS, hlen, List.forall_mem_cons.mpr ⟨hH _ (List.mem_cons_self ..), (fun _ hx => nomatch hx)⟩, fun _ => rfl⟩, fun base _ _ hTB => ?_⟩
  let T : Tx l.prog w K mg base := {
    cc_Rules := C_Rules
    m_Rules := PySem.W.mg_of X G yK_Rules
    C_Rules := DB.insC_of yK_Rules yA_Rules yB_Rules yD_Rules yE_Rules yF_Rules yG_Rules yH_Rules yI_Rules yJ_Rules
    nf_Rules__columns := DB.nof_of yK_Rules yf_Rules__columns
    kl_Rules := yk_Rules
    cc_Procedure := C_Procedure
    m_Procedure := PySem.W.mg_of X G yK_Procedure
    C_Procedure := DB.insC_of yK_Procedure yA_Procedure yB_Procedure yD_Procedure yE_Procedure yF_Procedure yG_Procedure yH_Procedure yI_Procedure yJ_Procedure
    nf_Procedure__columns := DB.nof_of yK_Procedure yf_Procedure__columns
    kl_Procedure := yk_Procedure
    cc_Table := C_Table
    m_Table := PySem.W.mg_of X G yK_Table
    C_Table := DB.insC_of yK_Table yA_Table yB_Table yD_Table yE_Table yF_Table yG_Table yH_Table yI_Table yJ_Table
    nf_Table__columns := DB.nof_of yK_Table yf_Table__columns
    nf_Table__rows := DB.nof_of yK_Table yf_Table__rows
    kl_Table := yk_Table
    f_is_name := f0
    fd_is_name := _
    F_is_name := F0
    m_is_name := PySem.W.mg_of X G a0
    b_is_name := b0
    f_are_names := f1
    fd_are_names := _
    F_are_names := F1
    m_are_names := PySem.W.mg_of X G a1
    b_are_names := b1
    f_all_columns := f2
    fd_all_columns := _
    F_all_columns := F2
    m_all_columns := PySem.W.mg_of X G a2
    b_all_columns := b2
    f_is_whole := f3
    fd_is_whole := _
    F_is_whole := F3
    m_is_whole := PySem.W.mg_of X G a3
    b_is_whole := b3
    f_is_row_ := f4
    fd_is_row_ := _
    F_is_row_ := F4
    m_is_row_ := PySem.W.mg_of X G a4
    b_is_row_ := b4
    f_checked_rows_ := f5
    fd_checked_rows_ := _
    F_checked_rows_ := F5
    m_checked_rows_ := PySem.W.mg_of X G a5
    b_checked_rows_ := b5
    dv_Table_M__init__ := _
    ev_Table := ev6
    s0_Table := fun G => .inr ⟨_, _, _, lE6, vE6, rfl, wE6, xE6⟩
    bd_Table_M__init__ := bd6
    f_Table_M__init__ := f6
    fd_Table_M__init__ := _
    F_Table_M__init__ := F6
    b_Table_M__init__ := b6
    M_Table := ⟨yM_Table, a6, g6, yP_Table⟩
    f_Table_Mempty := f7
    fd_Table_Mempty := _
    F_Table_Mempty := F7
    mc_Table := .type "type"
    cr_Table := ⟨yd7, ya7⟩
    pm_Table_Mempty := pp7
    cm_Table_Mempty := ⟨yp7, ⟨_, yr7⟩, yg7⟩
    f_Procedure_M__init__ := f8
    fd_Procedure_M__init__ := _
    F_Procedure_M__init__ := F8
    b_Procedure_M__init__ := b8
    M_Procedure := ⟨yM_Procedure, a8, g8, yP_Procedure⟩
    f_Rules_M__init__ := f9
    fd_Rules_M__init__ := _
    kws_Rules_M__init__ := _
    F_Rules_M__init__ := F9
    kr_Rules := kr9
    ev_Rules := ev9
    s0_Rules := fun G => .inr ⟨_, _, _, lE9, vE9, rfl, wE9, xE9⟩
    M_Rules := ⟨yM_Rules, a9, g9, yP_Rules⟩
    f_Lfield := f10
    fd_Lfield := _
    F_Lfield := F10
    m_Lfield := PySem.W.mg_of X G a10
    b_Lfield := b10
    f_Ldraws := f11
    fd_Ldraws := _
    F_Ldraws := F11
    m_Ldraws := PySem.W.mg_of X G a11
    b_Ldraws := b11
    f_Lpull := f12
    fd_Lpull := _
    F_Lpull := F12
    m_Lpull := PySem.W.mg_of X G a12
    b_Lpull := b12
    f_Lany := f13
    fd_Lany := _
    F_Lany := F13
    m_Lany := PySem.W.mg_of X G a13
    b_Lany := b13
    f_Lmixed := f14
    fd_Lmixed := _
    F_Lmixed := F14
    m_Lmixed := PySem.W.mg_of X G a14
    b_Lmixed := b14
    f_Llike := f15
    fd_Llike := _
    F_Llike := F15
    m_Llike := PySem.W.mg_of X G a15
    b_Llike := b15
    f_Ltry := f16
    fd_Ltry := _
    F_Ltry := F16
    m_Ltry := PySem.W.mg_of X G a16
    b_Ltry := b16
    f_Ltries := f17
    fd_Ltries := _
    F_Ltries := F17
    m_Ltries := PySem.W.mg_of X G a17
    b_Ltries := b17
    f_Lreserved := f18
    fd_Lreserved := _
    F_Lreserved := F18
    m_Lreserved := PySem.W.mg_of X G a18
    b_Lreserved := b18
    f_Lnew_names := f19
    fd_Lnew_names := _
    F_Lnew_names := F19
    m_Lnew_names := PySem.W.mg_of X G a19
    b_Lnew_names := b19
    f_Lnear := f20
    fd_Lnear := _
    F_Lnear := F20
    m_Lnear := PySem.W.mg_of X G a20
    b_Lnear := b20
    f_Lrows := f21
    fd_Lrows := _
    F_Lrows := F21
    m_Lrows := PySem.W.mg_of X G a21
    b_Lrows := b21
    cl_law := cl_law
    Pt_law := Pt_law
    i_law := (List.mem_cons_self ..)
    B_law := hTB _ (List.mem_cons_self ..)
    C_law := ⟨⟨_, _, _, _, _, _, _, _, rfl, l22, c22⟩⟩
    f_law := fa
    fd_law := _
    F_law := F22
    m_law := PySem.W.mg_of X G a22
    b_law := b22
    n_all := PySem.W.mg_none_of X G z_all
    n_bool := PySem.W.mg_none_of X G z_bool
    n_enumerate := PySem.W.mg_none_of X G z_enumerate
    n_int := PySem.W.mg_none_of X G z_int
    n_isinstance := PySem.W.mg_none_of X G z_isinstance
    n_len := PySem.W.mg_none_of X G z_len
    n_list := PySem.W.mg_none_of X G z_list
    n_range := PySem.W.mg_none_of X G z_range
    n_set := PySem.W.mg_none_of X G z_set
    n_sorted := PySem.W.mg_none_of X G z_sorted
    n_str := PySem.W.mg_none_of X G z_str
    n_tuple := PySem.W.mg_none_of X G z_tuple
    n_zip := PySem.W.mg_none_of X G z_zip
    E_InvalidColumns := ⟨C_InvalidColumns, PySem.W.mg_of X G ya_InvalidColumns, yb_InvalidColumns.to yT1 yT2 yT3 ⟨_, _, _, _, _, _, _, _, _, _, _, _, _, _, _, yc_InvalidColumns, yd_InvalidColumns⟩, ye_InvalidColumns, fT⟩
    E_InvalidRow := DX.errF_of (st := si_InvalidRow) (ar := ((defArgs si_InvalidRow).posonlyargs ++ (defArgs si_InvalidRow).args).headD ⟨"", none, ⟨0, 0, 0, 0⟩⟩) (par := "index") (PySem.W.mg_of X G ya_InvalidRow) (yb_InvalidRow.to yT1 yT2 yT3 ⟨_, _, _, _, _, _, _, _, _, _, _, _, _, _, _, yc_InvalidRow, yd_InvalidRow⟩) ye_InvalidRow yf_InvalidRow yl_InvalidRow yg_InvalidRow yh_InvalidRow yi_InvalidRow yj_InvalidRow yk_InvalidRow ysT ysS ysA ym_InvalidRow yn_InvalidRow fT yfn (DX.sup_by (by decide +kernel)) rfl rfl (by decide) (by decide) (by decide +kernel) (fun s us _ hl => match us, hl with | [_, _], _ => .of_eq rfl) rfl (fun _ => ⟨_, rfl⟩)
    T1 := T1
    T2 := T2
    T3 := T3
    m_T1 := PySem.W.mg_of X G yT1
    m_T2 := PySem.W.mg_of X G yT2
    m_T3 := PySem.W.mg_of X G yT3
    y_T1 := yT1
    y_T2 := yT2
    y_T3 := yT3
    f_init := fI
    fd_init := _
    F_init := FI
    b_init := bI
    g_BOUND := ⟨_, PySem.W.mg_of X G t_BOUND, ⟨_, rfl⟩⟩
    g_MOST_LETTERS := ⟨_, PySem.W.mg_of X G t_MOST_LETTERS, ⟨_, rfl⟩⟩
    g_MOST_COLUMNS := ⟨_, PySem.W.mg_of X G t_MOST_COLUMNS, ⟨_, rfl⟩⟩
    a_RESERVED := ta_RESERVED
    g_RESERVED := PySem.W.mg_of X G t_RESERVED
    q_RESERVED := fun G => .inr ⟨_, _, _, u_RESERVED, v_RESERVED, rfl, w_RESERVED, x_RESERVED⟩
    g_DEEPEST := ⟨_, PySem.W.mg_of X G t_DEEPEST, ⟨_, rfl⟩⟩
    g_MOST_OWN := ⟨_, PySem.W.mg_of X G t_MOST_OWN, ⟨_, rfl⟩⟩
    g_MOST_IN_ALL := ⟨_, PySem.W.mg_of X G t_MOST_IN_ALL, ⟨_, rfl⟩⟩
    g_DEEPEST_STATEMENT := ⟨_, PySem.W.mg_of X G t_DEEPEST_STATEMENT, ⟨_, rfl⟩⟩
    g_MOST_RETURNED := ⟨_, PySem.W.mg_of X G t_MOST_RETURNED, ⟨_, rfl⟩⟩
    a_ENDS := ta_ENDS
    g_ENDS := PySem.W.mg_of X G t_ENDS
    q_ENDS := fun G => .inr ⟨_, _, _, u_ENDS, v_ENDS, rfl, w_ENDS, x_ENDS⟩
    a_SIDES := ta_SIDES
    g_SIDES := PySem.W.mg_of X G t_SIDES
    q_SIDES := fun G => .inr ⟨_, _, _, u_SIDES, v_SIDES, rfl, w_SIDES, x_SIDES⟩
    a_READ := ta_READ
    g_READ := PySem.W.mg_of X G t_READ
    q_READ := fun G => .inr ⟨_, _, _, u_READ, v_READ, rfl, w_READ, x_READ⟩
    a_READ_BY_ROW := ta_READ_BY_ROW
    g_READ_BY_ROW := PySem.W.mg_of X G t_READ_BY_ROW
    q_READ_BY_ROW := fun G => .inr ⟨_, _, _, u_READ_BY_ROW, v_READ_BY_ROW, rfl, w_READ_BY_ROW, x_READ_BY_ROW⟩
    a_FAILING := ta_FAILING
    g_FAILING := PySem.W.mg_of X G t_FAILING
    q_FAILING := fun G => .inr ⟨_, _, _, u_FAILING, v_FAILING, rfl, w_FAILING, x_FAILING⟩
    a_CHANGING := ta_CHANGING
    g_CHANGING := PySem.W.mg_of X G t_CHANGING
    q_CHANGING := fun G => .inr ⟨_, _, _, u_CHANGING, v_CHANGING, rfl, w_CHANGING, x_CHANGING⟩
    g_MOST_ARGUMENTS := ⟨_, PySem.W.mg_of X G t_MOST_ARGUMENTS, ⟨_, rfl⟩⟩
    g_MOST_RULES := ⟨_, PySem.W.mg_of X G t_MOST_RULES, ⟨_, rfl⟩⟩
    a_ROW_FORMS := ta_ROW_FORMS
    g_ROW_FORMS := PySem.W.mg_of X G t_ROW_FORMS
    q_ROW_FORMS := fun G => .inr ⟨_, _, _, u_ROW_FORMS, v_ROW_FORMS, rfl, w_ROW_FORMS, x_ROW_FORMS⟩
    a_NEXT_FORMS := ta_NEXT_FORMS
    g_NEXT_FORMS := PySem.W.mg_of X G t_NEXT_FORMS
    q_NEXT_FORMS := fun G => .inr ⟨_, _, _, u_NEXT_FORMS, v_NEXT_FORMS, rfl, w_NEXT_FORMS, x_NEXT_FORMS⟩
    a_SIGNS := da_SIGNS
    g_SIGNS := PySem.W.mg_of X G y_SIGNS
    k_SIGNS := ⟨_, _, ⟨u_SIGNS, v_SIGNS, w_SIGNS⟩, x_SIGNS⟩ }
  exact ok_law T hB
end K15
open PySem PySem.W PyProof.Rows
set_option maxRecDepth 100000 in
set_option maxHeartbeats 0 in
theorem PySem.Challenge.cw_lookedrows_k15_tables_refused_holds : PySem.Challenge.rw_lookedrows_k15_tables_refused.Holds := by
  w_on; o_law
  refine HeadOf.said ?a5 ?hw ?hc
  case a5 => first | assumption | decide +kernel
  (case hw => w_witness2)
  k_fill
  refine LamX.walk_ofTs (l := PySem.Challenge.rw_lookedrows_k15_tables_refused) (n := 63) (k := K15.lvLaw) (x := "_law_script") (CX := fun _ => L2.CX0) rfl (by decide) rfl ⟨rfl, by decide, by decide⟩ (fun w h Y => PySem.W.km_in_of Y) ?F (fun _ _ _ _ _ h => h)
  case F =>
    intro w mg fa h Y KX G hmg
    have hTabs := PySem.W.km_tabs_of Y
    refine' K15.all_mk KX G hmg ?yK_Rules ?yA_Rules ?yB_Rules ?yD_Rules ?yE_Rules ?yF_Rules ?yG_Rules ?yH_Rules ?yI_Rules ?yJ_Rules ?yM_Rules ?yP_Rules ?yS_Rules ?yN_Rules ?yK_Procedure ?yA_Procedure ?yB_Procedure ?yD_Procedure ?yE_Procedure ?yF_Procedure ?yG_Procedure ?yH_Procedure ?yI_Procedure ?yJ_Procedure ?yM_Procedure ?yP_Procedure ?yS_Procedure ?yN_Procedure ?yK_Table ?yA_Table ?yB_Table ?yD_Table ?yE_Table ?yF_Table ?yG_Table ?yH_Table ?yI_Table ?yJ_Table ?yM_Table ?yP_Table ?yS_Table ?yN_Table ?a0 ?l0 ?c0 ?k0 ?a1 ?l1 ?c1 ?k1 ?a2 ?l2 ?c2 ?k2 ?a3 ?l3 ?c3 ?k3 ?a4 ?l4 ?c4 ?k4 ?a5 ?l5 ?c5 ?k5 ?a6 ?l6 ?c6 ?k6 ?g6 ?lT6 ?lE6 ?vE6 ?wE6 ?xE6 ?yp7 ?yr7 ?yg7 ?yd7 ?ya7 ?l7 ?c7 ?k7 ?a8 ?l8 ?c8 ?k8 ?g8 ?a9 ?l9 ?c9 ?k9 ?g9 ?yr9 ?ys9 ?lE9 ?vE9 ?wE9 ?xE9 ?a10 ?l10 ?c10 ?k10 ?a11 ?l11 ?c11 ?k11 ?a12 ?l12 ?c12 ?k12 ?a13 ?l13 ?c13 ?k13 ?a14 ?l14 ?c14 ?k14 ?a15 ?l15 ?c15 ?k15 ?a16 ?l16 ?c16 ?k16 ?a17 ?l17 ?c17 ?k17 ?a18 ?l18 ?c18 ?k18 ?a19 ?l19 ?c19 ?k19 ?a20 ?l20 ?c20 ?k20 ?a21 ?l21 ?c21 ?k21 ?a22 ?l22 ?c22 ?k22 ?yf_Table__columns ?yf_Table__rows ?yk_Table ?yf_Procedure__columns ?yk_Procedure ?yf_Rules__columns ?yk_Rules ?z_all ?z_bool ?z_enumerate ?z_int ?z_isinstance ?z_len ?z_list ?z_range ?z_set ?z_sorted ?z_str ?z_tuple ?z_zip ?yT1 ?yT2 ?yT3 ?yI ?ya_InvalidColumns ?ye_InvalidColumns ?lI ?cI ?kI ?fT ?ya_InvalidRow ?ye_InvalidRow ?yb_InvalidColumns ?yc_InvalidColumns ?yd_InvalidColumns ?ysT ?ysS ?ysA ?yfn ?yb_InvalidRow ?yc_InvalidRow ?yd_InvalidRow ?yf_InvalidRow ?yl_InvalidRow ?yg_InvalidRow ?yh_InvalidRow ?yi_InvalidRow ?yj_InvalidRow ?yk_InvalidRow ?ym_InvalidRow ?yn_InvalidRow ?tb_law ?ch_law ?ht_law ?nt_law ?yuq ?t_BOUND ?t_MOST_LETTERS ?t_MOST_COLUMNS ?t_RESERVED ?u_RESERVED ?v_RESERVED ?w_RESERVED ?x_RESERVED ?t_DEEPEST ?t_MOST_OWN ?t_MOST_IN_ALL ?t_DEEPEST_STATEMENT ?t_MOST_RETURNED ?t_ENDS ?u_ENDS ?v_ENDS ?w_ENDS ?x_ENDS ?t_SIDES ?u_SIDES ?v_SIDES ?w_SIDES ?x_SIDES ?t_READ ?u_READ ?v_READ ?w_READ ?x_READ ?t_READ_BY_ROW ?u_READ_BY_ROW ?v_READ_BY_ROW ?w_READ_BY_ROW ?x_READ_BY_ROW ?t_FAILING ?u_FAILING ?v_FAILING ?w_FAILING ?x_FAILING ?t_CHANGING ?u_CHANGING ?v_CHANGING ?w_CHANGING ?x_CHANGING ?t_MOST_ARGUMENTS ?t_MOST_RULES ?t_ROW_FORMS ?u_ROW_FORMS ?v_ROW_FORMS ?w_ROW_FORMS ?x_ROW_FORMS ?t_NEXT_FORMS ?u_NEXT_FORMS ?v_NEXT_FORMS ?w_NEXT_FORMS ?x_NEXT_FORMS ?y_SIGNS ?u_SIGNS ?v_SIGNS ?w_SIGNS ?x_SIGNS
    (case yK_Rules => first | k_is | fail)
    (case yA_Rules => first | k_is | kernel_rfl)
    (case yB_Rules => first | k_is | kernel_rfl)
    (case yD_Rules => first | k_is | kernel_rfl)
    (case yE_Rules => first | k_is | fail)
    (case yF_Rules => first | k_is | fail)
    (case yG_Rules => first | k_is | fail)
    (case yH_Rules => first | k_is | fail)
    (case yI_Rules => first | k_is | fail)
    (case yJ_Rules => first | k_is | kernel_rfl)
    (case yM_Rules => first | k_is | kernel_rfl)
    (case yP_Rules => first | k_is | kernel_rfl)
    (case yS_Rules => first | k_is | kernel_rfl)
    (case yN_Rules => first | k_is | kernel_rfl)
    (case yK_Procedure => first | k_is | fail)
    (case yA_Procedure => first | k_is | kernel_rfl)
    (case yB_Procedure => first | k_is | kernel_rfl)
    (case yD_Procedure => first | k_is | kernel_rfl)
    (case yE_Procedure => first | k_is | fail)
    (case yF_Procedure => first | k_is | fail)
    (case yG_Procedure => first | k_is | fail)
    (case yH_Procedure => first | k_is | fail)
    (case yI_Procedure => first | k_is | fail)
    (case yJ_Procedure => first | k_is | kernel_rfl)
    (case yM_Procedure => first | k_is | kernel_rfl)
    (case yP_Procedure => first | k_is | kernel_rfl)
    (case yS_Procedure => first | k_is | kernel_rfl)
    (case yN_Procedure => first | k_is | kernel_rfl)
    (case yK_Table => first | k_is | fail)
    (case yA_Table => first | k_is | kernel_rfl)
    (case yB_Table => first | k_is | kernel_rfl)
    (case yD_Table => first | k_is | kernel_rfl)
    (case yE_Table => first | k_is | fail)
    (case yF_Table => first | k_is | fail)
    (case yG_Table => first | k_is | fail)
    (case yH_Table => first | k_is | fail)
    (case yI_Table => first | k_is | fail)
    (case yJ_Table => first | k_is | kernel_rfl)
    (case yM_Table => first | k_is | kernel_rfl)
    (case yP_Table => first | k_is | kernel_rfl)
    (case yS_Table => first | k_is | kernel_rfl)
    (case yN_Table => first | k_is | kernel_rfl)
    (case a0 => first | k_is | fail)
    (case l0 => first | k_is | fail)
    (case c0 => first | k_is | fail)
    (case k0 => first | k_is | fail)
    (case a1 => first | k_is | fail)
    (case l1 => first | k_is | fail)
    (case c1 => first | k_is | fail)
    (case k1 => first | k_is | fail)
    (case a2 => first | k_is | fail)
    (case l2 => first | k_is | fail)
    (case c2 => first | k_is | fail)
    (case k2 => first | k_is | fail)
    (case a3 => first | k_is | fail)
    (case l3 => first | k_is | fail)
    (case c3 => first | k_is | fail)
    (case k3 => first | k_is | fail)
    (case a4 => first | k_is | fail)
    (case l4 => first | k_is | fail)
    (case c4 => first | k_is | fail)
    (case k4 => first | k_is | fail)
    (case a5 => first | k_is | fail)
    (case l5 => first | k_is | fail)
    (case c5 => first | k_is | fail)
    (case k5 => first | k_is | fail)
    (case a6 => first | k_is | fail)
    (case l6 => first | k_is | fail)
    (case c6 => first | k_is | fail)
    (case k6 => first | k_is | fail)
    (case g6 => first | k_is | fail)
    (case lT6 => first | k_is | fail)
    (case lE6 => first | k_is | fail)
    (case vE6 => rfl)
    (case wE6 => decide)
    (case xE6 => exact .nil)
    (case yp7 => first | k_is | fail)
    (case yr7 => first | k_is | fail)
    (case yg7 => first | k_is | fail)
    (case yd7 => first | k_is | fail)
    (case ya7 => first | k_is | fail)
    (case l7 => first | k_is | fail)
    (case c7 => first | k_is | fail)
    (case k7 => first | k_is | fail)
    (case a8 => first | k_is | fail)
    (case l8 => first | k_is | fail)
    (case c8 => first | k_is | fail)
    (case k8 => first | k_is | fail)
    (case g8 => first | k_is | fail)
    (case a9 => first | k_is | fail)
    (case l9 => first | k_is | fail)
    (case c9 => first | k_is | fail)
    (case k9 => first | k_is | fail)
    (case g9 => first | k_is | fail)
    (case yr9 => first | k_is | fail)
    (case ys9 => first | k_is | fail)
    (case lE9 => first | k_is | fail)
    (case vE9 => rfl)
    (case wE9 => decide)
    (case xE9 => exact .nil)
    (case a10 => first | k_is | fail)
    (case l10 => first | k_is | fail)
    (case c10 => first | k_is | fail)
    (case k10 => first | k_is | fail)
    (case a11 => first | k_is | fail)
    (case l11 => first | k_is | fail)
    (case c11 => first | k_is | fail)
    (case k11 => first | k_is | fail)
    (case a12 => first | k_is | fail)
    (case l12 => first | k_is | fail)
    (case c12 => first | k_is | fail)
    (case k12 => first | k_is | fail)
    (case a13 => first | k_is | fail)
    (case l13 => first | k_is | fail)
    (case c13 => first | k_is | fail)
    (case k13 => first | k_is | fail)
    (case a14 => first | k_is | fail)
    (case l14 => first | k_is | fail)
    (case c14 => first | k_is | fail)
    (case k14 => first | k_is | fail)
    (case a15 => first | k_is | fail)
    (case l15 => first | k_is | fail)
    (case c15 => first | k_is | fail)
    (case k15 => first | k_is | fail)
    (case a16 => first | k_is | fail)
    (case l16 => first | k_is | fail)
    (case c16 => first | k_is | fail)
    (case k16 => first | k_is | fail)
    (case a17 => first | k_is | fail)
    (case l17 => first | k_is | fail)
    (case c17 => first | k_is | fail)
    (case k17 => first | k_is | fail)
    (case a18 => first | k_is | fail)
    (case l18 => first | k_is | fail)
    (case c18 => first | k_is | fail)
    (case k18 => first | k_is | fail)
    (case a19 => first | k_is | fail)
    (case l19 => first | k_is | fail)
    (case c19 => first | k_is | fail)
    (case k19 => first | k_is | fail)
    (case a20 => first | k_is | fail)
    (case l20 => first | k_is | fail)
    (case c20 => first | k_is | fail)
    (case k20 => first | k_is | fail)
    (case a21 => first | k_is | fail)
    (case l21 => first | k_is | fail)
    (case c21 => first | k_is | fail)
    (case k21 => first | k_is | fail)
    (case a22 => first | k_is | fail)
    (case l22 => first | k_is | fail)
    (case c22 => first | k_is | fail)
    (case k22 => first | k_is | fail)
    (case yf_Table__columns => first | k_is | fail)
    (case yf_Table__rows => first | k_is | fail)
    (case yk_Table => first | k_is | kernel_rfl)
    (case yf_Procedure__columns => first | k_is | fail)
    (case yk_Procedure => first | k_is | kernel_rfl)
    (case yf_Rules__columns => first | k_is | fail)
    (case yk_Rules => first | k_is | kernel_rfl)
    (case z_all => first | k_is | fail)
    (case z_bool => first | k_is | fail)
    (case z_enumerate => first | k_is | fail)
    (case z_int => first | k_is | fail)
    (case z_isinstance => first | k_is | fail)
    (case z_len => first | k_is | fail)
    (case z_list => first | k_is | fail)
    (case z_range => first | k_is | fail)
    (case z_set => first | k_is | fail)
    (case z_sorted => first | k_is | fail)
    (case z_str => first | k_is | fail)
    (case z_tuple => first | k_is | fail)
    (case z_zip => first | k_is | fail)
    (case yT1 => first | k_is | fail)
    (case yT2 => first | k_is | fail)
    (case yT3 => first | k_is | fail)
    (case yI => first | k_is | fail)
    (case ya_InvalidColumns => first | k_is | fail)
    (case ye_InvalidColumns => first | k_is | fail)
    (case lI => first | k_is | fail)
    (case cI => first | k_is | fail)
    (case kI => first | k_is | fail)
    (case fT => first | k_is | fail)
    (case ya_InvalidRow => first | k_is | fail)
    (case ye_InvalidRow => first | k_is | fail)
    (case yb_InvalidColumns => constructor <;> first | k_is | rfl | kernel_rfl)
    (case yc_InvalidColumns => first | k_is | fail)
    (case yd_InvalidColumns => first | k_is | rfl | decide)
    (case ysT => first | rfl | decide +kernel)
    (case ysS => first | k_is | fail)
    (case ysA => first | k_is | fail)
    (case yfn => first | k_is | rfl | kernel_rfl)
    (case yb_InvalidRow => constructor <;> first | k_is | rfl | kernel_rfl)
    (case yc_InvalidRow => first | k_is | fail)
    (case yd_InvalidRow => first | k_is | rfl | decide)
    (case yf_InvalidRow => first | k_is | fail)
    (case yl_InvalidRow => first | k_is | fail)
    (case yg_InvalidRow => first | k_is | fail)
    (case yh_InvalidRow => first | k_is | fail)
    (case yi_InvalidRow => rfl)
    (case yj_InvalidRow => first | rfl | decide +kernel)
    (case yk_InvalidRow => first | k_is | fail)
    (case ym_InvalidRow => first | k_is | fail)
    (case yn_InvalidRow => first | ks_is | kernel_rfl)
    (case tb_law => first | k_is | rfl)
    (case ch_law => kernel_rfl)
    (case ht_law => exact hTabs _ (by simp))
    (case nt_law => first | k_is | rfl | kernel_rfl)
    (case yuq => decide +kernel)
    (case t_BOUND => first | k_is | fail)
    (case t_MOST_LETTERS => first | k_is | fail)
    (case t_MOST_COLUMNS => first | k_is | fail)
    (case t_RESERVED => first | k_is | fail)
    (case u_RESERVED => first | k_is | fail)
    (case v_RESERVED => rfl)
    (case w_RESERVED => decide)
    (case x_RESERVED => exact (.cons ⟨_, rfl⟩ (.cons ⟨_, rfl⟩ (.cons ⟨_, rfl⟩ (.cons ⟨_, rfl⟩ (.cons ⟨_, rfl⟩ (.cons ⟨_, rfl⟩ (.cons ⟨_, rfl⟩ (.cons ⟨_, rfl⟩ (.cons ⟨_, rfl⟩ (.cons ⟨_, rfl⟩ .nil)))))))))))
    (case t_DEEPEST => first | k_is | fail)
    (case t_MOST_OWN => first | k_is | fail)
    (case t_MOST_IN_ALL => first | k_is | fail)
    (case t_DEEPEST_STATEMENT => first | k_is | fail)
    (case t_MOST_RETURNED => first | k_is | fail)
    (case t_ENDS => first | k_is | fail)
    (case u_ENDS => first | k_is | fail)
    (case v_ENDS => rfl)
    (case w_ENDS => decide)
    (case x_ENDS => exact (.cons ⟨_, rfl⟩ (.cons ⟨_, rfl⟩ .nil)))
    (case t_SIDES => first | k_is | fail)
    (case u_SIDES => first | k_is | fail)
    (case v_SIDES => rfl)
    (case w_SIDES => decide)
    (case x_SIDES => exact (.cons ⟨_, rfl⟩ (.cons ⟨_, rfl⟩ .nil)))
    (case t_READ => first | k_is | fail)
    (case u_READ => first | k_is | fail)
    (case v_READ => rfl)
    (case w_READ => decide)
    (case x_READ => exact (.cons ⟨_, rfl⟩ (.cons ⟨_, rfl⟩ (.cons ⟨_, rfl⟩ .nil))))
    (case t_READ_BY_ROW => first | k_is | fail)
    (case u_READ_BY_ROW => first | k_is | fail)
    (case v_READ_BY_ROW => rfl)
    (case w_READ_BY_ROW => decide)
    (case x_READ_BY_ROW => exact (.cons ⟨_, rfl⟩ (.cons ⟨_, rfl⟩ (.cons ⟨_, rfl⟩ (.cons ⟨_, rfl⟩ .nil)))))
    (case t_FAILING => first | k_is | fail)
    (case u_FAILING => first | k_is | fail)
    (case v_FAILING => rfl)
    (case w_FAILING => decide)
    (case x_FAILING => exact (.cons ⟨_, rfl⟩ (.cons ⟨_, rfl⟩ (.cons ⟨_, rfl⟩ (.cons ⟨_, rfl⟩ (.cons ⟨_, rfl⟩ (.cons ⟨_, rfl⟩ .nil)))))))
    (case t_CHANGING => first | k_is | fail)
    (case u_CHANGING => first | k_is | fail)
    (case v_CHANGING => rfl)
    (case w_CHANGING => decide)
    (case x_CHANGING => exact (.cons ⟨_, rfl⟩ (.cons ⟨_, rfl⟩ (.cons ⟨_, rfl⟩ (.cons ⟨_, rfl⟩ (.cons ⟨_, rfl⟩ (.cons ⟨_, rfl⟩ .nil)))))))
    (case t_MOST_ARGUMENTS => first | k_is | fail)
    (case t_MOST_RULES => first | k_is | fail)
    (case t_ROW_FORMS => first | k_is | fail)
    (case u_ROW_FORMS => first | k_is | fail)
    (case v_ROW_FORMS => rfl)
    (case w_ROW_FORMS => decide)
    (case x_ROW_FORMS => exact (.cons ⟨_, rfl⟩ (.cons ⟨_, rfl⟩ .nil)))
    (case t_NEXT_FORMS => first | k_is | fail)
    (case u_NEXT_FORMS => first | k_is | fail)
    (case v_NEXT_FORMS => rfl)
    (case w_NEXT_FORMS => decide)
    (case x_NEXT_FORMS => exact (.cons ⟨_, rfl⟩ (.cons ⟨_, rfl⟩ (.cons ⟨_, rfl⟩ .nil))))
    (case y_SIGNS => first | k_is | fail)
    (case u_SIGNS => first | k_is | fail)
    (case v_SIGNS => exact ⟨⟨_, _, rfl, rfl⟩, ⟨_, _, rfl, rfl⟩, ⟨_, _, rfl, rfl⟩, trivial⟩)
    (case w_SIGNS => first | k_is | rfl | decide)
    (case x_SIGNS => exact (.cons (.cons (.cons .nil))))
    all_goals exact PySem.Value.none
