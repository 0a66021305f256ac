/- Tables of stretches of numbers: which number lies in one; the tables that chapters 9 to 12 give, and what is known of them. Of no program. -/
namespace Go.Proofs.Ytfkeeigaocmalaa
/-- Does r lie in a stretch? -/
def inTab (T : List (Int × Int)) (r : Int) : Bool := T.any fun p => decide (p.1 ≤ r) && decide (r ≤ p.2)
/-- Stretches that rise and don't meet. -/
def upTab : List (Int × Int) → Bool
  | [] => true
  | [p] => decide (p.1 ≤ p.2)
  | p :: q :: l => decide (p.1 ≤ p.2) && decide (p.2 < q.1) && upTab (q :: l)
theorem upTab_cons {p : Int × Int} {l : List (Int × Int)} (h : upTab (p :: l) = true) : p.1 ≤ p.2 ∧ upTab l = true ∧ ∀ q ∈ l, p.2 < q.1 := by
  induction l generalizing p with
  | nil => exact ⟨by simpa [upTab] using h, rfl, fun q hq => by cases hq⟩
  | cons q l ih =>
    simp only [upTab, Bool.and_eq_true, decide_eq_true_eq] at h
    obtain ⟨i1, _, i3⟩ := ih h.2
    refine ⟨h.1.1, h.2, fun x hx => ?_⟩
    rcases List.mem_cons.1 hx with rfl | hx
    · exact h.1.2
    · have := i3 x hx; omega
theorem up_le : ∀ {T : List (Int × Int)}, upTab T = true → ∀ i (h : i < T.length), T[i].1 ≤ T[i].2
  | [], _, i, h => absurd h (Nat.not_lt_zero _)
  | p :: l, hu, 0, _ => (upTab_cons hu).1
  | p :: l, hu, i + 1, h => up_le (T := l) (upTab_cons hu).2.1 i (by simpa using h)
theorem up_lt : ∀ {T : List (Int × Int)}, upTab T = true → ∀ i j (hi : i < j) (hj : j < T.length), (T[i]'(by omega)).2 < T[j].1
  | [], _, i, j, _, hj => absurd hj (Nat.not_lt_zero _)
  | p :: l, hu, 0, j + 1, _, hj => (upTab_cons hu).2.2 _ (List.getElem_mem (by simpa using hj))
  | p :: l, hu, i + 1, j + 1, hi, hj => up_lt (T := l) (upTab_cons hu).2.1 i j (by omega) (by simpa using hj)
theorem inTab_of {T : List (Int × Int)} {r : Int} (i : Nat) (h : i < T.length) (h1 : T[i].1 ≤ r) (h2 : r ≤ T[i].2) : inTab T r = true :=
  List.any_eq_true.2 ⟨T[i], List.getElem_mem h, by simp [h1, h2]⟩
theorem inTab_at {T : List (Int × Int)} {r : Int} (h : inTab T r = true) : ∃ i, ∃ h : i < T.length, T[i].1 ≤ r ∧ r ≤ T[i].2 := by
  obtain ⟨p, hp, hh⟩ := List.any_eq_true.1 h
  obtain ⟨i, hi, rfl⟩ := List.getElem_of_mem hp
  simp at hh
  exact ⟨i, hi, hh.1, hh.2⟩
theorem inTab_none {T : List (Int × Int)} {r : Int} (h : ∀ i (h : i < T.length), ¬ (T[i].1 ≤ r ∧ r ≤ T[i].2)) : inTab T r = false := by
  cases ht : inTab T r with
  | false => rfl
  | true =>
    obtain ⟨i, hi, hh⟩ := inTab_at ht
    exact absurd hh (h i hi)
/-- The first stretch that doesn't end below r holds r, or none does. -/
theorem inTab_search {T : List (Int × Int)} {r : Int} (hu : upTab T = true) (i : Nat) (hi : i < T.length) (hlo : ∀ j (hj : j < i), (T[j]'(by omega)).2 < r) (hhi : r ≤ T[i].2) : inTab T r = decide (T[i].1 ≤ r) := by
  by_cases h1 : T[i].1 ≤ r
  · rw [decide_eq_true h1]; exact inTab_of i hi h1 hhi
  · rw [decide_eq_false h1]
    refine inTab_none fun k hk hh => ?_
    rcases Nat.lt_trichotomy k i with h | h | h
    · have := hlo k h; omega
    · subst h; omega
    · have := up_lt hu i k h hk; have := up_le hu i hi; omega
theorem inTab_past {T : List (Int × Int)} {r : Int} (hlo : ∀ j (hj : j < T.length), (T[j]'(by omega)).2 < r) : inTab T r = false :=
  inTab_none fun k hk hh => by have := hlo k hk; omega
/-- Tables that don't meet. -/
def apart (T U : List (Int × Int)) : Bool := T.all fun p => U.all fun q => decide (p.2 < q.1) || decide (q.2 < p.1)
theorem apart_not {T U : List (Int × Int)} {r : Int} (h : apart T U = true) (ht : inTab T r = true) : inTab U r = false := by
  refine inTab_none fun k hk hh => ?_
  obtain ⟨i, hi, h1, h2⟩ := inTab_at ht
  have := List.all_eq_true.1 (List.all_eq_true.1 h _ (List.getElem_mem hi)) _ (List.getElem_mem hk)
  simp at this
  omega
/-- Each stretch of T lies in one of U. -/
def within (T U : List (Int × Int)) : Bool := T.all fun p => U.any fun q => decide (q.1 ≤ p.1) && decide (p.2 ≤ q.2)
theorem within_in {T U : List (Int × Int)} {r : Int} (h : within T U = true) (ht : inTab T r = true) : inTab U r = true := by
  obtain ⟨i, hi, h1, h2⟩ := inTab_at ht
  have := List.all_eq_true.1 h _ (List.getElem_mem hi)
  obtain ⟨q, hq, hh⟩ := List.any_eq_true.1 this
  simp at hh
  exact List.any_eq_true.2 ⟨q, hq, by simp; omega⟩
theorem inTab_one (a b r : Int) : inTab [(a, b)] r = (decide (a ≤ r) && decide (r ≤ b)) := by simp [inTab]
def tControl : List (Int × Int) := [
  (0, 9), (11, 12), (14, 31), (127, 159), (173, 173), (1564, 1564), (6158, 6158), (8203, 8203), (8206, 8207), (8232, 8238), (8288, 8303), 
  (65279, 65279), (65520, 65531), (917504, 917535), (917632, 917759), (918000, 921599)]
theorem tControl_up : upTab tControl = true := by decide +kernel
theorem tControl_len : tControl.length = 16 := by decide +kernel
def tExtend : List (Int × Int) := [
  (768, 879), (1155, 1161), (1425, 1469), (1471, 1471), (1473, 1474), (1476, 1477), (1479, 1479), (1552, 1562), (1611, 1631), (1648, 1648), 
  (1750, 1756), (1759, 1764), (1767, 1768), (1770, 1773), (1809, 1809), (1840, 1866), (1958, 1968), (2027, 2035), (2070, 2073), (2075, 2083), 
  (2259, 2273), (2275, 2306), (2362, 2362), (2364, 2364), (2369, 2376), (2381, 2381), (2385, 2391), (2402, 2403), (2433, 2433), (2492, 2492), 
  (2494, 2494), (2497, 2500), (2509, 2509), (2519, 2519), (2530, 2531), (2561, 2562), (2620, 2620), (2625, 2626), (2631, 2632), (2635, 2637), 
  (2748, 2748), (2753, 2757), (2765, 2765), (2876, 2876), (2878, 2879), (2881, 2884), (2893, 2893), (2902, 2903), (3132, 3132), (3134, 3136), 
  (3142, 3144), (3146, 3149), (3276, 3277), (3390, 3390), (3393, 3396), (3405, 3405), (3633, 3633), (3636, 3642), (3655, 3662), (3761, 3761), 
  (3764, 3772), (3864, 3865), (3953, 3966), (4957, 4959), (6832, 6862), (7616, 7679), (8204, 8204), (8400, 8432), (12330, 12335), (12441, 12442), 
  (42607, 42610), (64286, 64286), (65024, 65039), (65056, 65071), (127995, 127999), (917536, 917631), (917760, 917999)]
theorem tExtend_up : upTab tExtend = true := by decide +kernel
theorem tExtend_len : tExtend.length = 77 := by decide +kernel
def tPrepend : List (Int × Int) := [
  (1536, 1541), (1757, 1757), (1807, 1807), (2192, 2193), (2274, 2274), (3406, 3406), (69821, 69821), (69837, 69837)]
theorem tPrepend_up : upTab tPrepend = true := by decide +kernel
theorem tPrepend_len : tPrepend.length = 8 := by decide +kernel
def tSpacing : List (Int × Int) := [
  (2307, 2307), (2363, 2363), (2366, 2368), (2377, 2380), (2382, 2383), (2434, 2435), (2495, 2496), (2503, 2504), (2507, 2508), (2563, 2563), 
  (2622, 2624), (2691, 2691), (2750, 2752), (2761, 2761), (2818, 2819), (2880, 2880), (2887, 2888), (3073, 3075), (3137, 3140), (3330, 3331), 
  (3391, 3392), (3398, 3400), (3635, 3635), (3763, 3763), (3902, 3903), (4155, 4156)]
theorem tSpacing_up : upTab tSpacing = true := by decide +kernel
theorem tSpacing_len : tSpacing.length = 26 := by decide +kernel
def tPict : List (Int × Int) := [
  (169, 169), (174, 174), (8252, 8252), (8265, 8265), (8482, 8482), (8505, 8505), (8596, 8601), (8617, 8618), (8986, 8987), (9000, 9000), (9096, 9096), 
  (9167, 9167), (9193, 9203), (9208, 9210), (9410, 9410), (9642, 9643), (9654, 9654), (9664, 9664), (9723, 9726), (9728, 9733), (9735, 9746), 
  (9748, 9861), (9872, 9989), (9992, 10002), (10004, 10004), (10006, 10006), (10013, 10013), (10017, 10017), (10024, 10024), (10035, 10036), 
  (10052, 10052), (10055, 10055), (10060, 10060), (10062, 10062), (10067, 10069), (10071, 10071), (10083, 10087), (10133, 10135), (10145, 10145), 
  (10160, 10160), (10175, 10175), (10548, 10549), (11013, 11015), (11035, 11036), (11088, 11088), (11093, 11093), (12336, 12336), (12349, 12349), 
  (12951, 12951), (12953, 12953), (126976, 127231), (127245, 127247), (127279, 127279), (127340, 127345), (127358, 127359), (127374, 127374), 
  (127377, 127386), (127405, 127461), (127489, 127503), (127514, 127514), (127535, 127535), (127538, 127546), (127548, 127551), (127561, 127994), 
  (128000, 128317), (128326, 128591), (128640, 128767), (128884, 128895), (128981, 129023), (129036, 129039), (129096, 129103), (129114, 129119), 
  (129160, 129167), (129198, 129279), (129292, 129338), (129340, 129349), (129351, 129791), (130048, 131069)]
theorem tPict_up : upTab tPict = true := by decide +kernel
theorem tPict_len : tPict.length = 78 := by decide +kernel
def tCons : List (Int × Int) := [
  (2325, 2361), (2392, 2399), (2424, 2431), (2453, 2472), (2474, 2480), (2482, 2482), (2486, 2489), (2524, 2525), (2527, 2527), (2544, 2545), 
  (2709, 2728), (2730, 2736), (2738, 2739), (2741, 2745), (2809, 2809), (2837, 2856), (2858, 2864), (2866, 2867), (2869, 2873), (2908, 2909), 
  (2911, 2911), (2929, 2929), (3093, 3112), (3114, 3129), (3160, 3162), (3349, 3386)]
theorem tCons_up : upTab tCons = true := by decide +kernel
theorem tCons_len : tCons.length = 26 := by decide +kernel
def tLink : List (Int × Int) := [
  (2381, 2381), (2509, 2509), (2765, 2765), (2893, 2893), (3149, 3149), (3405, 3405)]
theorem tLink_up : upTab tLink = true := by decide +kernel
theorem tLink_len : tLink.length = 6 := by decide +kernel
def tJoin : List (Int × Int) := [
  (768, 879), (1155, 1159), (1425, 1469), (1552, 1562), (1611, 1631), (2364, 2364), (2385, 2388), (2492, 2492), (2748, 2748), (2876, 2876), 
  (3132, 3132), (6832, 6845), (7616, 7679), (8205, 8205), (8400, 8412), (12330, 12335), (12441, 12442), (65056, 65071)]
theorem tJoin_up : upTab tJoin = true := by decide +kernel
theorem tJoin_len : tJoin.length = 18 := by decide +kernel
def tWide : List (Int × Int) := [
  (4352, 4447), (8986, 8987), (9001, 9002), (9193, 9196), (9200, 9200), (9203, 9203), (9725, 9726), (9748, 9749), (9800, 9811), (9855, 9855), 
  (9875, 9875), (9889, 9889), (9898, 9899), (9917, 9918), (9924, 9925), (9934, 9934), (9940, 9940), (9962, 9962), (9970, 9971), (9973, 9973), 
  (9978, 9978), (9981, 9981), (9989, 9989), (9994, 9995), (10024, 10024), (10060, 10060), (10062, 10062), (10067, 10069), (10071, 10071), 
  (10133, 10135), (10160, 10160), (10175, 10175), (11035, 11036), (11088, 11088), (11093, 11093), (11904, 11929), (11931, 12019), (12032, 12245), 
  (12272, 12287), (12289, 12350), (12353, 12438), (12441, 12543), (12549, 12591), (12593, 12686), (12688, 12771), (12784, 12830), (12832, 12871), 
  (12880, 19903), (19968, 42124), (42128, 42182), (43360, 43388), (44032, 55203), (63744, 64255), (65040, 65049), (65072, 65106), (65108, 65126), 
  (65128, 65131), (94176, 94180), (94208, 100343), (100352, 101589), (110592, 110882), (126980, 126980), (127183, 127183), (127374, 127374), 
  (127377, 127386), (127488, 127490), (127504, 127547), (127552, 127560), (127568, 127569), (127584, 127589), (127744, 127776), (127789, 127797), 
  (127799, 127868), (127870, 127891), (127904, 127946), (127951, 127955), (127968, 127984), (127988, 127988), (127992, 128062), (128064, 128064), 
  (128066, 128252), (128255, 128317), (128331, 128334), (128336, 128359), (128378, 128378), (128405, 128406), (128420, 128420), (128507, 128591), 
  (128640, 128709), (128716, 128716), (128720, 128722), (128725, 128727), (128732, 128735), (128747, 128748), (128756, 128764), (128992, 129003), 
  (129008, 129008), (129292, 129338), (129340, 129349), (129351, 129535), (129648, 129660), (129664, 129672), (129680, 129725), (129727, 129733), 
  (129742, 129755), (129760, 129768), (129776, 129784), (131072, 196605), (196608, 262141)]
theorem tWide_up : upTab tWide = true := by decide +kernel
theorem tWide_len : tWide.length = 109 := by decide +kernel
def tFull : List (Int × Int) := [
  (12288, 12288), (65281, 65376), (65504, 65510)]
theorem tFull_up : upTab tFull = true := by decide +kernel
theorem tFull_len : tFull.length = 3 := by decide +kernel
def tHalf : List (Int × Int) := [
  (8361, 8361), (65377, 65470), (65474, 65479), (65482, 65487), (65490, 65495), (65498, 65500), (65512, 65518)]
theorem tHalf_up : upTab tHalf = true := by decide +kernel
theorem tHalf_len : tHalf.length = 7 := by decide +kernel

theorem a1 : apart tSpacing tPrepend = true := by decide +kernel
theorem a2 : apart tControl [(13, 13), (10, 10), (8205, 8205), (127462, 127487)] = true := by decide +kernel
theorem a3 : apart tExtend [(13, 13), (10, 10), (8205, 8205), (127462, 127487)] = true := by decide +kernel
end Go.Proofs.Ytfkeeigaocmalaa
