/- The walk of package poly's product of limbs. Laid by wip/gen/gplytim.py. Each theorem names its own conditions. -/
import Derived.Test.YtjnnhkodkbhbbaaPlyCar
namespace Go.Proofs.Ytjnnhkodkbhbbaa
open Go.RowKit
set_option linter.unusedVariables false
set_option linter.unusedSimpArgs false

theorem lim_build (a b c d e : Int) (w : World) : (Instr.build 84 #[(0, .int .u64 a), (1, .int .u64 b), (2, .int .u64 c), (3, .int .u64 d), (4, .int .u64 e)]).run Try.prog w = .ok (.agg #[.int .u64 a, .int .u64 b, .int .u64 c, .int .u64 d, .int .u64 e]) w := by
  simp [Instr.build, Try.zeroValue84]
  rfl
theorem carL_len (a b c d e : Int) : (carL [a, b, c, d, e]).length = 5 := rfl

set_option maxRecDepth 100000 in
set_option maxHeartbeats 16000000 in
theorem ptimes_any (a b c d e f g h i j : Int) (ba : 0 ≤ a ∧ a ≤ 268435455) (bb : 0 ≤ b ∧ b ≤ 268435455) (bc : 0 ≤ c ∧ c ≤ 268435455) (bd : 0 ≤ d ∧ d ≤ 268435455) (be : 0 ≤ e ∧ e ≤ 268435455)
    (bf : 0 ≤ f ∧ f ≤ 67108863) (bg : 0 ≤ g ∧ g ≤ 67108863) (bh : 0 ≤ h ∧ h ≤ 67108863) (bi : 0 ≤ i ∧ i ≤ 67108863) (bj : 0 ≤ j ∧ j ≤ 67108863) (w : World) :
    Calls Try.prog 69 #[.agg (ints .u64 [a, b, c, d, e]).toArray, .agg (ints .u64 [f, g, h, i, j]).toArray] w fun x w' => x = .returned (.agg (ints .u64 (timL [a, b, c, d, e] [f, g, h, i, j])).toArray) ∧ Below w.heap.size w w' := by
  obtain ⟨v2, hv2⟩ : ∃ v, v = 5 * g := ⟨_, rfl⟩
  have bv2 : 0 ≤ v2 ∧ v2 ≤ 335544315 := by omega
  have Wv2 : Hid (IntKind.u64.wrap (5 * g) = v2) := Lib.hid (by rw [← hv2, IntKind.wrap_u64]; omega)
  obtain ⟨v5, hv5⟩ : ∃ v, v = 5 * h := ⟨_, rfl⟩
  have bv5 : 0 ≤ v5 ∧ v5 ≤ 335544315 := by omega
  have Wv5 : Hid (IntKind.u64.wrap (5 * h) = v5) := Lib.hid (by rw [← hv5, IntKind.wrap_u64]; omega)
  obtain ⟨v8, hv8⟩ : ∃ v, v = 5 * i := ⟨_, rfl⟩
  have bv8 : 0 ≤ v8 ∧ v8 ≤ 335544315 := by omega
  have Wv8 : Hid (IntKind.u64.wrap (5 * i) = v8) := Lib.hid (by rw [← hv8, IntKind.wrap_u64]; omega)
  obtain ⟨v11, hv11⟩ : ∃ v, v = 5 * j := ⟨_, rfl⟩
  have bv11 : 0 ≤ v11 ∧ v11 ≤ 335544315 := by omega
  have Wv11 : Hid (IntKind.u64.wrap (5 * j) = v11) := Lib.hid (by rw [← hv11, IntKind.wrap_u64]; omega)
  obtain ⟨v20, hv20⟩ : ∃ v, v = a * f := ⟨_, rfl⟩
  have bv20 : 0 ≤ v20 ∧ v20 ≤ 18014398173937665 := by rw [hv20]; have := mulB ba bf; omega
  have Wv20 : Hid (IntKind.u64.wrap (a * f) = v20) := Lib.hid (by rw [← hv20, IntKind.wrap_u64]; omega)
  obtain ⟨v24, hv24⟩ : ∃ v, v = b * v11 := ⟨_, rfl⟩
  have bv24 : 0 ≤ v24 ∧ v24 ≤ 90071990869688325 := by rw [hv24]; have := mulB bb bv11; omega
  have Wv24 : Hid (IntKind.u64.wrap (b * v11) = v24) := Lib.hid (by rw [← hv24, IntKind.wrap_u64]; omega)
  obtain ⟨v25, hv25⟩ : ∃ v, v = v20 + v24 := ⟨_, rfl⟩
  have bv25 : 0 ≤ v25 ∧ v25 ≤ 108086389043625990 := by omega
  have Wv25 : Hid (IntKind.u64.wrap (v20 + v24) = v25) := Lib.hid (by rw [← hv25, IntKind.wrap_u64]; omega)
  obtain ⟨v29, hv29⟩ : ∃ v, v = c * v8 := ⟨_, rfl⟩
  have bv29 : 0 ≤ v29 ∧ v29 ≤ 90071990869688325 := by rw [hv29]; have := mulB bc bv8; omega
  have Wv29 : Hid (IntKind.u64.wrap (c * v8) = v29) := Lib.hid (by rw [← hv29, IntKind.wrap_u64]; omega)
  obtain ⟨v30, hv30⟩ : ∃ v, v = v25 + v29 := ⟨_, rfl⟩
  have bv30 : 0 ≤ v30 ∧ v30 ≤ 198158379913314315 := by omega
  have Wv30 : Hid (IntKind.u64.wrap (v25 + v29) = v30) := Lib.hid (by rw [← hv30, IntKind.wrap_u64]; omega)
  obtain ⟨v34, hv34⟩ : ∃ v, v = d * v5 := ⟨_, rfl⟩
  have bv34 : 0 ≤ v34 ∧ v34 ≤ 90071990869688325 := by rw [hv34]; have := mulB bd bv5; omega
  have Wv34 : Hid (IntKind.u64.wrap (d * v5) = v34) := Lib.hid (by rw [← hv34, IntKind.wrap_u64]; omega)
  obtain ⟨v35, hv35⟩ : ∃ v, v = v30 + v34 := ⟨_, rfl⟩
  have bv35 : 0 ≤ v35 ∧ v35 ≤ 288230370783002640 := by omega
  have Wv35 : Hid (IntKind.u64.wrap (v30 + v34) = v35) := Lib.hid (by rw [← hv35, IntKind.wrap_u64]; omega)
  obtain ⟨v39, hv39⟩ : ∃ v, v = e * v2 := ⟨_, rfl⟩
  have bv39 : 0 ≤ v39 ∧ v39 ≤ 90071990869688325 := by rw [hv39]; have := mulB be bv2; omega
  have Wv39 : Hid (IntKind.u64.wrap (e * v2) = v39) := Lib.hid (by rw [← hv39, IntKind.wrap_u64]; omega)
  obtain ⟨v40, hv40⟩ : ∃ v, v = v35 + v39 := ⟨_, rfl⟩
  have bv40 : 0 ≤ v40 ∧ v40 ≤ 378302361652690965 := by omega
  have Wv40 : Hid (IntKind.u64.wrap (v35 + v39) = v40) := Lib.hid (by rw [← hv40, IntKind.wrap_u64]; omega)
  obtain ⟨v45, hv45⟩ : ∃ v, v = a * g := ⟨_, rfl⟩
  have bv45 : 0 ≤ v45 ∧ v45 ≤ 18014398173937665 := by rw [hv45]; have := mulB ba bg; omega
  have Wv45 : Hid (IntKind.u64.wrap (a * g) = v45) := Lib.hid (by rw [← hv45, IntKind.wrap_u64]; omega)
  obtain ⟨v50, hv50⟩ : ∃ v, v = b * f := ⟨_, rfl⟩
  have bv50 : 0 ≤ v50 ∧ v50 ≤ 18014398173937665 := by rw [hv50]; have := mulB bb bf; omega
  have Wv50 : Hid (IntKind.u64.wrap (b * f) = v50) := Lib.hid (by rw [← hv50, IntKind.wrap_u64]; omega)
  obtain ⟨v51, hv51⟩ : ∃ v, v = v45 + v50 := ⟨_, rfl⟩
  have bv51 : 0 ≤ v51 ∧ v51 ≤ 36028796347875330 := by omega
  have Wv51 : Hid (IntKind.u64.wrap (v45 + v50) = v51) := Lib.hid (by rw [← hv51, IntKind.wrap_u64]; omega)
  obtain ⟨v55, hv55⟩ : ∃ v, v = c * v11 := ⟨_, rfl⟩
  have bv55 : 0 ≤ v55 ∧ v55 ≤ 90071990869688325 := by rw [hv55]; have := mulB bc bv11; omega
  have Wv55 : Hid (IntKind.u64.wrap (c * v11) = v55) := Lib.hid (by rw [← hv55, IntKind.wrap_u64]; omega)
  obtain ⟨v56, hv56⟩ : ∃ v, v = v51 + v55 := ⟨_, rfl⟩
  have bv56 : 0 ≤ v56 ∧ v56 ≤ 126100787217563655 := by omega
  have Wv56 : Hid (IntKind.u64.wrap (v51 + v55) = v56) := Lib.hid (by rw [← hv56, IntKind.wrap_u64]; omega)
  obtain ⟨v60, hv60⟩ : ∃ v, v = d * v8 := ⟨_, rfl⟩
  have bv60 : 0 ≤ v60 ∧ v60 ≤ 90071990869688325 := by rw [hv60]; have := mulB bd bv8; omega
  have Wv60 : Hid (IntKind.u64.wrap (d * v8) = v60) := Lib.hid (by rw [← hv60, IntKind.wrap_u64]; omega)
  obtain ⟨v61, hv61⟩ : ∃ v, v = v56 + v60 := ⟨_, rfl⟩
  have bv61 : 0 ≤ v61 ∧ v61 ≤ 216172778087251980 := by omega
  have Wv61 : Hid (IntKind.u64.wrap (v56 + v60) = v61) := Lib.hid (by rw [← hv61, IntKind.wrap_u64]; omega)
  obtain ⟨v65, hv65⟩ : ∃ v, v = e * v5 := ⟨_, rfl⟩
  have bv65 : 0 ≤ v65 ∧ v65 ≤ 90071990869688325 := by rw [hv65]; have := mulB be bv5; omega
  have Wv65 : Hid (IntKind.u64.wrap (e * v5) = v65) := Lib.hid (by rw [← hv65, IntKind.wrap_u64]; omega)
  obtain ⟨v66, hv66⟩ : ∃ v, v = v61 + v65 := ⟨_, rfl⟩
  have bv66 : 0 ≤ v66 ∧ v66 ≤ 306244768956940305 := by omega
  have Wv66 : Hid (IntKind.u64.wrap (v61 + v65) = v66) := Lib.hid (by rw [← hv66, IntKind.wrap_u64]; omega)
  obtain ⟨v71, hv71⟩ : ∃ v, v = a * h := ⟨_, rfl⟩
  have bv71 : 0 ≤ v71 ∧ v71 ≤ 18014398173937665 := by rw [hv71]; have := mulB ba bh; omega
  have Wv71 : Hid (IntKind.u64.wrap (a * h) = v71) := Lib.hid (by rw [← hv71, IntKind.wrap_u64]; omega)
  obtain ⟨v76, hv76⟩ : ∃ v, v = b * g := ⟨_, rfl⟩
  have bv76 : 0 ≤ v76 ∧ v76 ≤ 18014398173937665 := by rw [hv76]; have := mulB bb bg; omega
  have Wv76 : Hid (IntKind.u64.wrap (b * g) = v76) := Lib.hid (by rw [← hv76, IntKind.wrap_u64]; omega)
  obtain ⟨v77, hv77⟩ : ∃ v, v = v71 + v76 := ⟨_, rfl⟩
  have bv77 : 0 ≤ v77 ∧ v77 ≤ 36028796347875330 := by omega
  have Wv77 : Hid (IntKind.u64.wrap (v71 + v76) = v77) := Lib.hid (by rw [← hv77, IntKind.wrap_u64]; omega)
  obtain ⟨v82, hv82⟩ : ∃ v, v = c * f := ⟨_, rfl⟩
  have bv82 : 0 ≤ v82 ∧ v82 ≤ 18014398173937665 := by rw [hv82]; have := mulB bc bf; omega
  have Wv82 : Hid (IntKind.u64.wrap (c * f) = v82) := Lib.hid (by rw [← hv82, IntKind.wrap_u64]; omega)
  obtain ⟨v83, hv83⟩ : ∃ v, v = v77 + v82 := ⟨_, rfl⟩
  have bv83 : 0 ≤ v83 ∧ v83 ≤ 54043194521812995 := by omega
  have Wv83 : Hid (IntKind.u64.wrap (v77 + v82) = v83) := Lib.hid (by rw [← hv83, IntKind.wrap_u64]; omega)
  obtain ⟨v87, hv87⟩ : ∃ v, v = d * v11 := ⟨_, rfl⟩
  have bv87 : 0 ≤ v87 ∧ v87 ≤ 90071990869688325 := by rw [hv87]; have := mulB bd bv11; omega
  have Wv87 : Hid (IntKind.u64.wrap (d * v11) = v87) := Lib.hid (by rw [← hv87, IntKind.wrap_u64]; omega)
  obtain ⟨v88, hv88⟩ : ∃ v, v = v83 + v87 := ⟨_, rfl⟩
  have bv88 : 0 ≤ v88 ∧ v88 ≤ 144115185391501320 := by omega
  have Wv88 : Hid (IntKind.u64.wrap (v83 + v87) = v88) := Lib.hid (by rw [← hv88, IntKind.wrap_u64]; omega)
  obtain ⟨v92, hv92⟩ : ∃ v, v = e * v8 := ⟨_, rfl⟩
  have bv92 : 0 ≤ v92 ∧ v92 ≤ 90071990869688325 := by rw [hv92]; have := mulB be bv8; omega
  have Wv92 : Hid (IntKind.u64.wrap (e * v8) = v92) := Lib.hid (by rw [← hv92, IntKind.wrap_u64]; omega)
  obtain ⟨v93, hv93⟩ : ∃ v, v = v88 + v92 := ⟨_, rfl⟩
  have bv93 : 0 ≤ v93 ∧ v93 ≤ 234187176261189645 := by omega
  have Wv93 : Hid (IntKind.u64.wrap (v88 + v92) = v93) := Lib.hid (by rw [← hv93, IntKind.wrap_u64]; omega)
  obtain ⟨v98, hv98⟩ : ∃ v, v = a * i := ⟨_, rfl⟩
  have bv98 : 0 ≤ v98 ∧ v98 ≤ 18014398173937665 := by rw [hv98]; have := mulB ba bi; omega
  have Wv98 : Hid (IntKind.u64.wrap (a * i) = v98) := Lib.hid (by rw [← hv98, IntKind.wrap_u64]; omega)
  obtain ⟨v103, hv103⟩ : ∃ v, v = b * h := ⟨_, rfl⟩
  have bv103 : 0 ≤ v103 ∧ v103 ≤ 18014398173937665 := by rw [hv103]; have := mulB bb bh; omega
  have Wv103 : Hid (IntKind.u64.wrap (b * h) = v103) := Lib.hid (by rw [← hv103, IntKind.wrap_u64]; omega)
  obtain ⟨v104, hv104⟩ : ∃ v, v = v98 + v103 := ⟨_, rfl⟩
  have bv104 : 0 ≤ v104 ∧ v104 ≤ 36028796347875330 := by omega
  have Wv104 : Hid (IntKind.u64.wrap (v98 + v103) = v104) := Lib.hid (by rw [← hv104, IntKind.wrap_u64]; omega)
  obtain ⟨v109, hv109⟩ : ∃ v, v = c * g := ⟨_, rfl⟩
  have bv109 : 0 ≤ v109 ∧ v109 ≤ 18014398173937665 := by rw [hv109]; have := mulB bc bg; omega
  have Wv109 : Hid (IntKind.u64.wrap (c * g) = v109) := Lib.hid (by rw [← hv109, IntKind.wrap_u64]; omega)
  obtain ⟨v110, hv110⟩ : ∃ v, v = v104 + v109 := ⟨_, rfl⟩
  have bv110 : 0 ≤ v110 ∧ v110 ≤ 54043194521812995 := by omega
  have Wv110 : Hid (IntKind.u64.wrap (v104 + v109) = v110) := Lib.hid (by rw [← hv110, IntKind.wrap_u64]; omega)
  obtain ⟨v115, hv115⟩ : ∃ v, v = d * f := ⟨_, rfl⟩
  have bv115 : 0 ≤ v115 ∧ v115 ≤ 18014398173937665 := by rw [hv115]; have := mulB bd bf; omega
  have Wv115 : Hid (IntKind.u64.wrap (d * f) = v115) := Lib.hid (by rw [← hv115, IntKind.wrap_u64]; omega)
  obtain ⟨v116, hv116⟩ : ∃ v, v = v110 + v115 := ⟨_, rfl⟩
  have bv116 : 0 ≤ v116 ∧ v116 ≤ 72057592695750660 := by omega
  have Wv116 : Hid (IntKind.u64.wrap (v110 + v115) = v116) := Lib.hid (by rw [← hv116, IntKind.wrap_u64]; omega)
  obtain ⟨v120, hv120⟩ : ∃ v, v = e * v11 := ⟨_, rfl⟩
  have bv120 : 0 ≤ v120 ∧ v120 ≤ 90071990869688325 := by rw [hv120]; have := mulB be bv11; omega
  have Wv120 : Hid (IntKind.u64.wrap (e * v11) = v120) := Lib.hid (by rw [← hv120, IntKind.wrap_u64]; omega)
  obtain ⟨v121, hv121⟩ : ∃ v, v = v116 + v120 := ⟨_, rfl⟩
  have bv121 : 0 ≤ v121 ∧ v121 ≤ 162129583565438985 := by omega
  have Wv121 : Hid (IntKind.u64.wrap (v116 + v120) = v121) := Lib.hid (by rw [← hv121, IntKind.wrap_u64]; omega)
  obtain ⟨v126, hv126⟩ : ∃ v, v = a * j := ⟨_, rfl⟩
  have bv126 : 0 ≤ v126 ∧ v126 ≤ 18014398173937665 := by rw [hv126]; have := mulB ba bj; omega
  have Wv126 : Hid (IntKind.u64.wrap (a * j) = v126) := Lib.hid (by rw [← hv126, IntKind.wrap_u64]; omega)
  obtain ⟨v131, hv131⟩ : ∃ v, v = b * i := ⟨_, rfl⟩
  have bv131 : 0 ≤ v131 ∧ v131 ≤ 18014398173937665 := by rw [hv131]; have := mulB bb bi; omega
  have Wv131 : Hid (IntKind.u64.wrap (b * i) = v131) := Lib.hid (by rw [← hv131, IntKind.wrap_u64]; omega)
  obtain ⟨v132, hv132⟩ : ∃ v, v = v126 + v131 := ⟨_, rfl⟩
  have bv132 : 0 ≤ v132 ∧ v132 ≤ 36028796347875330 := by omega
  have Wv132 : Hid (IntKind.u64.wrap (v126 + v131) = v132) := Lib.hid (by rw [← hv132, IntKind.wrap_u64]; omega)
  obtain ⟨v137, hv137⟩ : ∃ v, v = c * h := ⟨_, rfl⟩
  have bv137 : 0 ≤ v137 ∧ v137 ≤ 18014398173937665 := by rw [hv137]; have := mulB bc bh; omega
  have Wv137 : Hid (IntKind.u64.wrap (c * h) = v137) := Lib.hid (by rw [← hv137, IntKind.wrap_u64]; omega)
  obtain ⟨v138, hv138⟩ : ∃ v, v = v132 + v137 := ⟨_, rfl⟩
  have bv138 : 0 ≤ v138 ∧ v138 ≤ 54043194521812995 := by omega
  have Wv138 : Hid (IntKind.u64.wrap (v132 + v137) = v138) := Lib.hid (by rw [← hv138, IntKind.wrap_u64]; omega)
  obtain ⟨v143, hv143⟩ : ∃ v, v = d * g := ⟨_, rfl⟩
  have bv143 : 0 ≤ v143 ∧ v143 ≤ 18014398173937665 := by rw [hv143]; have := mulB bd bg; omega
  have Wv143 : Hid (IntKind.u64.wrap (d * g) = v143) := Lib.hid (by rw [← hv143, IntKind.wrap_u64]; omega)
  obtain ⟨v144, hv144⟩ : ∃ v, v = v138 + v143 := ⟨_, rfl⟩
  have bv144 : 0 ≤ v144 ∧ v144 ≤ 72057592695750660 := by omega
  have Wv144 : Hid (IntKind.u64.wrap (v138 + v143) = v144) := Lib.hid (by rw [← hv144, IntKind.wrap_u64]; omega)
  obtain ⟨v149, hv149⟩ : ∃ v, v = e * f := ⟨_, rfl⟩
  have bv149 : 0 ≤ v149 ∧ v149 ≤ 18014398173937665 := by rw [hv149]; have := mulB be bf; omega
  have Wv149 : Hid (IntKind.u64.wrap (e * f) = v149) := Lib.hid (by rw [← hv149, IntKind.wrap_u64]; omega)
  obtain ⟨v150, hv150⟩ : ∃ v, v = v144 + v149 := ⟨_, rfl⟩
  have bv150 : 0 ≤ v150 ∧ v150 ≤ 90071990869688325 := by omega
  have Wv150 : Hid (IntKind.u64.wrap (v144 + v149) = v150) := Lib.hid (by rw [← hv150, IntKind.wrap_u64]; omega)
  have HT : Hid (timL [a, b, c, d, e] [f, g, h, i, j] = carL [v40, v66, v93, v121, v150]) := Lib.hid (by subst hv150 hv149 hv144 hv143 hv138 hv137 hv132 hv131 hv126 hv121 hv120 hv116 hv115 hv110 hv109 hv104 hv103 hv98 hv93 hv92 hv88 hv87 hv83 hv82 hv77 hv76 hv71 hv66 hv65 hv61 hv60 hv56 hv55 hv51 hv50 hv45 hv40 hv39 hv35 hv34 hv30 hv29 hv25 hv24 hv20 hv11 hv8 hv5 hv2; rfl)
  have HC := Lib.hid (pcarried_any v40 v66 v93 v121 v150 (by omega) (by omega) (by omega) (by omega) (by omega))
  have HLn := Lib.hid (carL_len v40 v66 v93 v121 v150)
  rw [HT.out]
  generalize carL [v40, v66, v93, v121, v150] = C at *
  have HB := Lib.hid (boxes3 w (ints .u64 [a, b, c, d, e]) (ints .u64 [f, g, h, i, j]) (ints .u64 [0, 0, 0, 0, 0]) 84 84 84)
  clear ba bb bc bd be bf bg bh bi bj HT hv2 bv2 hv5 bv5 hv8 bv8 hv11 bv11 hv20 bv20 hv24 bv24 hv25 bv25 hv29 bv29 hv30 bv30 hv34 bv34 hv35 bv35 hv39 bv39 hv40 bv40 hv45 bv45 hv50 bv50 hv51 bv51 hv55 bv55 hv56 bv56 hv60 bv60 hv61 bv61 hv65 bv65 hv66 bv66 hv71 bv71 hv76 bv76 hv77 bv77 hv82 bv82 hv83 bv83 hv87 bv87 hv88 bv88 hv92 bv92 hv93 bv93 hv98 bv98 hv103 bv103 hv104 bv104 hv109 bv109 hv110 bv110 hv115 bv115 hv116 bv116 hv120 bv120 hv121 bv121 hv126 bv126 hv131 bv131 hv132 bv132 hv137 bv137 hv138 bv138 hv143 bv143 hv144 bv144 hv149 bv149 hv150 bv150
  go_enter Try.func69, Try.ntmps69
  go_upto_region 1 with (fail)
  obtain ⟨H1, H2, H3, HE⟩ := HB.out
  change Code.wp _ _ _ _ (((w.alloc (.cells (ints .u64 [a, b, c, d, e]).toArray 84)).alloc (.cells (ints .u64 [f, g, h, i, j]).toArray 84)).alloc (.cells (ints .u64 [0, 0, 0, 0, 0]).toArray 84))
  generalize ((w.alloc (.cells (ints .u64 [a, b, c, d, e]).toArray 84)).alloc (.cells (ints .u64 [f, g, h, i, j]).toArray 84)).alloc (.cells (ints .u64 [0, 0, 0, 0, 0]).toArray 84) = wa at *
  obtain ⟨A, hA⟩ : ∃ A, A = w.heap.size := ⟨_, rfl⟩
  have HAW : Hid (w.heap.size ≤ A) := Lib.hid (by omega)
  rw [← hA] at H1 H2 H3 ⊢
  have H1 := Lib.hid H1
  have H2 := Lib.hid H2
  have H3 := Lib.hid H3
  have HE : Hid (Ext w wa) := Lib.hid HE
  clear hA HB
  refine wp_region_from 16 0 16 rfl (by kernel_rfl) (by kernel_rfl) (fun d v c a w h => by cases d <;> exact h) (by kernel_rfl) ?_
  refine det_index _ _ _ _ (A + 1) 5 1 (by rfl) rfl rfl rfl Try.underlying84 (by omega) (Try.sizeOf82) ?_
  simp only [Act.put, List.setIfInBounds_toArray, List.set_cons_zero, List.set_cons_succ]
  refine det_cell _ _ (A + 1) 1 (.int .u64 g) (by rfl) rfl rfl (fun w hw => (ext_blk H2.out hw).cell 1) (Try.isAgg82) ?_
  simp only [Act.put, List.setIfInBounds_toArray, List.set_cons_zero, List.set_cons_succ]
  refine det_mul _ _ _ _ _ _ _ v2 (by rfl) rfl rfl rfl Wv2.out ?_
  simp only [Act.put, List.setIfInBounds_toArray, List.set_cons_zero, List.set_cons_succ]
  refine det_index _ _ _ _ (A + 1) 5 2 (by rfl) rfl rfl rfl Try.underlying84 (by omega) (Try.sizeOf82) ?_
  simp only [Act.put, List.setIfInBounds_toArray, List.set_cons_zero, List.set_cons_succ]
  refine det_cell _ _ (A + 1) 2 (.int .u64 h) (by rfl) rfl rfl (fun w hw => (ext_blk H2.out hw).cell 2) (Try.isAgg82) ?_
  simp only [Act.put, List.setIfInBounds_toArray, List.set_cons_zero, List.set_cons_succ]
  refine det_mul _ _ _ _ _ _ _ v5 (by rfl) rfl rfl rfl Wv5.out ?_
  simp only [Act.put, List.setIfInBounds_toArray, List.set_cons_zero, List.set_cons_succ]
  refine det_index _ _ _ _ (A + 1) 5 3 (by rfl) rfl rfl rfl Try.underlying84 (by omega) (Try.sizeOf82) ?_
  simp only [Act.put, List.setIfInBounds_toArray, List.set_cons_zero, List.set_cons_succ]
  refine det_cell _ _ (A + 1) 3 (.int .u64 i) (by rfl) rfl rfl (fun w hw => (ext_blk H2.out hw).cell 3) (Try.isAgg82) ?_
  simp only [Act.put, List.setIfInBounds_toArray, List.set_cons_zero, List.set_cons_succ]
  refine det_mul _ _ _ _ _ _ _ v8 (by rfl) rfl rfl rfl Wv8.out ?_
  simp only [Act.put, List.setIfInBounds_toArray, List.set_cons_zero, List.set_cons_succ]
  refine det_index _ _ _ _ (A + 1) 5 4 (by rfl) rfl rfl rfl Try.underlying84 (by omega) (Try.sizeOf82) ?_
  simp only [Act.put, List.setIfInBounds_toArray, List.set_cons_zero, List.set_cons_succ]
  refine det_cell _ _ (A + 1) 4 (.int .u64 j) (by rfl) rfl rfl (fun w hw => (ext_blk H2.out hw).cell 4) (Try.isAgg82) ?_
  simp only [Act.put, List.setIfInBounds_toArray, List.set_cons_zero, List.set_cons_succ]
  refine det_mul _ _ _ _ _ _ _ v11 (by rfl) rfl rfl rfl Wv11.out ?_
  simp only [Act.put, List.setIfInBounds_toArray, List.set_cons_zero, List.set_cons_succ]
  refine det_assign _ (.int .u64 v2) (by rfl) rfl rfl ?_
  simp only [Act.put, List.setIfInBounds_toArray, List.set_cons_zero, List.set_cons_succ]
  refine det_assign _ (.int .u64 v5) (by rfl) rfl rfl ?_
  simp only [Act.put, List.setIfInBounds_toArray, List.set_cons_zero, List.set_cons_succ]
  refine det_assign _ (.int .u64 v8) (by rfl) rfl rfl ?_
  simp only [Act.put, List.setIfInBounds_toArray, List.set_cons_zero, List.set_cons_succ]
  refine det_assign _ (.int .u64 v11) (by rfl) rfl rfl ?_
  simp only [Act.put, List.setIfInBounds_toArray, List.set_cons_zero, List.set_cons_succ]
  refine det_nil (end_none (by kernel_rfl) (fun w1 hw1 => ?_))
  have H1 := Lib.hid (ext_blk H1.out hw1)
  have H2 := Lib.hid (ext_blk H2.out hw1)
  have H3 := Lib.hid (ext_blk H3.out hw1)
  have HE := Lib.hid (HE.out.trans hw1)
  clear hw1
  have qx0 := H1.out.cell 0
  have qy0 := H2.out.cell 0
  have qx1 := H1.out.cell 1
  have qy1 := H2.out.cell 1
  have qx2 := H1.out.cell 2
  have qy2 := H2.out.cell 2
  have qx3 := H1.out.cell 3
  have qy3 := H2.out.cell 3
  have qx4 := H1.out.cell 4
  have qy4 := H2.out.cell 4
  simp only [ints, List.map_cons, List.map_nil, List.getElem?_cons_zero, List.getElem?_cons_succ] at qx0 qy0 qx1 qy1 qx2 qy2 qx3 qy3 qx4 qy4
  have Tv20 := Wv20.out
  have Uv20 := Tv20
  rw [IntKind.wrap_u64] at Uv20
  have Tv24 := Wv24.out
  have Uv24 := Tv24
  rw [IntKind.wrap_u64] at Uv24
  have Tv25 := Wv25.out
  have Uv25 := Tv25
  rw [IntKind.wrap_u64] at Uv25
  have Tv29 := Wv29.out
  have Uv29 := Tv29
  rw [IntKind.wrap_u64] at Uv29
  have Tv30 := Wv30.out
  have Uv30 := Tv30
  rw [IntKind.wrap_u64] at Uv30
  have Tv34 := Wv34.out
  have Uv34 := Tv34
  rw [IntKind.wrap_u64] at Uv34
  have Tv35 := Wv35.out
  have Uv35 := Tv35
  rw [IntKind.wrap_u64] at Uv35
  have Tv39 := Wv39.out
  have Uv39 := Tv39
  rw [IntKind.wrap_u64] at Uv39
  have Tv40 := Wv40.out
  have Uv40 := Tv40
  rw [IntKind.wrap_u64] at Uv40
  have Tv45 := Wv45.out
  have Uv45 := Tv45
  rw [IntKind.wrap_u64] at Uv45
  have Tv50 := Wv50.out
  have Uv50 := Tv50
  rw [IntKind.wrap_u64] at Uv50
  have Tv51 := Wv51.out
  have Uv51 := Tv51
  rw [IntKind.wrap_u64] at Uv51
  have Tv55 := Wv55.out
  have Uv55 := Tv55
  rw [IntKind.wrap_u64] at Uv55
  have Tv56 := Wv56.out
  have Uv56 := Tv56
  rw [IntKind.wrap_u64] at Uv56
  have Tv60 := Wv60.out
  have Uv60 := Tv60
  rw [IntKind.wrap_u64] at Uv60
  have Tv61 := Wv61.out
  have Uv61 := Tv61
  rw [IntKind.wrap_u64] at Uv61
  have Tv65 := Wv65.out
  have Uv65 := Tv65
  rw [IntKind.wrap_u64] at Uv65
  have Tv66 := Wv66.out
  have Uv66 := Tv66
  rw [IntKind.wrap_u64] at Uv66
  have Tv71 := Wv71.out
  have Uv71 := Tv71
  rw [IntKind.wrap_u64] at Uv71
  have Tv76 := Wv76.out
  have Uv76 := Tv76
  rw [IntKind.wrap_u64] at Uv76
  have Tv77 := Wv77.out
  have Uv77 := Tv77
  rw [IntKind.wrap_u64] at Uv77
  have Tv82 := Wv82.out
  have Uv82 := Tv82
  rw [IntKind.wrap_u64] at Uv82
  have Tv83 := Wv83.out
  have Uv83 := Tv83
  rw [IntKind.wrap_u64] at Uv83
  have Tv87 := Wv87.out
  have Uv87 := Tv87
  rw [IntKind.wrap_u64] at Uv87
  have Tv88 := Wv88.out
  have Uv88 := Tv88
  rw [IntKind.wrap_u64] at Uv88
  have Tv92 := Wv92.out
  have Uv92 := Tv92
  rw [IntKind.wrap_u64] at Uv92
  have Tv93 := Wv93.out
  have Uv93 := Tv93
  rw [IntKind.wrap_u64] at Uv93
  have Tv98 := Wv98.out
  have Uv98 := Tv98
  rw [IntKind.wrap_u64] at Uv98
  have Tv103 := Wv103.out
  have Uv103 := Tv103
  rw [IntKind.wrap_u64] at Uv103
  have Tv104 := Wv104.out
  have Uv104 := Tv104
  rw [IntKind.wrap_u64] at Uv104
  have Tv109 := Wv109.out
  have Uv109 := Tv109
  rw [IntKind.wrap_u64] at Uv109
  have Tv110 := Wv110.out
  have Uv110 := Tv110
  rw [IntKind.wrap_u64] at Uv110
  have Tv115 := Wv115.out
  have Uv115 := Tv115
  rw [IntKind.wrap_u64] at Uv115
  have Tv116 := Wv116.out
  have Uv116 := Tv116
  rw [IntKind.wrap_u64] at Uv116
  have Tv120 := Wv120.out
  have Uv120 := Tv120
  rw [IntKind.wrap_u64] at Uv120
  have Tv121 := Wv121.out
  have Uv121 := Tv121
  rw [IntKind.wrap_u64] at Uv121
  have Tv126 := Wv126.out
  have Uv126 := Tv126
  rw [IntKind.wrap_u64] at Uv126
  have Tv131 := Wv131.out
  have Uv131 := Tv131
  rw [IntKind.wrap_u64] at Uv131
  have Tv132 := Wv132.out
  have Uv132 := Tv132
  rw [IntKind.wrap_u64] at Uv132
  have Tv137 := Wv137.out
  have Uv137 := Tv137
  rw [IntKind.wrap_u64] at Uv137
  have Tv138 := Wv138.out
  have Uv138 := Tv138
  rw [IntKind.wrap_u64] at Uv138
  have Tv143 := Wv143.out
  have Uv143 := Tv143
  rw [IntKind.wrap_u64] at Uv143
  have Tv144 := Wv144.out
  have Uv144 := Tv144
  rw [IntKind.wrap_u64] at Uv144
  have Tv149 := Wv149.out
  have Uv149 := Tv149
  rw [IntKind.wrap_u64] at Uv149
  have Tv150 := Wv150.out
  have Uv150 := Tv150
  rw [IntKind.wrap_u64] at Uv150
  go_wp2_with fail
  refine (HC.out _).mono ?_
  rintro x w2 ⟨rfl, hb⟩
  have H3 := Lib.hid (ext_blk H3.out hb)
  have HE := Lib.hid (HE.out.trans hb)
  clear hb
  have HI : Hid ((Try.prog.info? 84).map (·.size) = some (ints .u64 C).length) := Lib.hid (lim_size HLn.out)
  have HLz : Hid ((ints .u64 C).length = (ints .u64 [0, 0, 0, 0, 0]).length) := Lib.hid (by rw [ints_length, HLn.out]; rfl)
  go_wp2_with (refine wpList_store_blk rfl _ _ _ rfl (A + 1 + 1) (ints .u64 C) rfl rfl _ _ H3.out HLz.out HI.out (ints_one _ _) ?_; intro w5 hb5 hg5)
  refine bodyPost_ret (result_blk rfl _ (A + 1 + 1) _ _ _ _ rfl hb5 Try.underlying84 HI.out) rfl ?_
  exact ⟨rfl, ext_grown HE.out hg5 (by have := HAW.out; omega)⟩

end Go.Proofs.Ytjnnhkodkbhbbaa
