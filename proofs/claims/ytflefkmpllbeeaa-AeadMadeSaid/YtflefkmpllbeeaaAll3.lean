/- Texts that belong together, one behind the other; each says in its own first remark what it shows. -/
import Derived.Test.YtflefkmpllbeeaaAll2
import Derived.Test.YtflefkmpllbeeaaProg
import Derived.Test.YtflefkmpllbeeaaAll1
import Derived.Laws.CopyOwn
import Derived.Deep.CutRange
import Derived.Deep.RegionWith
import Derived.ScopeJumps
import Derived.Control
import Derived.StillTailTactics
import Derived.Deep.LoopGhost
import Derived.BigQuiet

/- The walk of package poly's product of limbs. Laid by wip/gen/gplytim.py. Each theorem names its own conditions. -/
namespace Go.Proofs.Ytflefkmpllbeeaa
open Go.RowKit
set_option linter.unusedVariables false
set_option linter.unusedSimpArgs false

theorem lim_build (a b c d e : Int) (w : World) : (Instr.build 61 #[(0, .int .u64 a), (1, .int .u64 b), (2, .int .u64 c), (3, .int .u64 d), (4, .int .u64 e)]).run Try.prog w = .ok (.agg #[.int .u64 a, .int .u64 b, .int .u64 c, .int .u64 d, .int .u64 e]) w := by
  simp [Instr.build, Try.zeroValue61]
  rfl
theorem carL_len (a b c d e : Int) : (carL [a, b, c, d, e]).length = 5 := rfl

set_option maxRecDepth 100000 in
set_option maxHeartbeats 16000000 in
theorem ptimes_any (a b c d e f g h i j : Int) (ba : 0 ≤ a ∧ a ≤ 268435455) (bb : 0 ≤ b ∧ b ≤ 268435455) (bc : 0 ≤ c ∧ c ≤ 268435455) (bd : 0 ≤ d ∧ d ≤ 268435455) (be : 0 ≤ e ∧ e ≤ 268435455)
    (bf : 0 ≤ f ∧ f ≤ 67108863) (bg : 0 ≤ g ∧ g ≤ 67108863) (bh : 0 ≤ h ∧ h ≤ 67108863) (bi : 0 ≤ i ∧ i ≤ 67108863) (bj : 0 ≤ j ∧ j ≤ 67108863) (w : World) :
    Calls Try.prog 46 #[.agg (ints .u64 [a, b, c, d, e]).toArray, .agg (ints .u64 [f, g, h, i, j]).toArray] w fun x w' => x = .returned (.agg (ints .u64 (timL [a, b, c, d, e] [f, g, h, i, j])).toArray) ∧ Below w.heap.size w w' := by
  obtain ⟨v2, hv2⟩ : ∃ v, v = 5 * g := ⟨_, rfl⟩
  have bv2 : 0 ≤ v2 ∧ v2 ≤ 335544315 := by omega
  have Wv2 : Hid (IntKind.u64.wrap (5 * g) = v2) := Lib.hid (by rw [← hv2, IntKind.wrap_u64]; omega)
  obtain ⟨v5, hv5⟩ : ∃ v, v = 5 * h := ⟨_, rfl⟩
  have bv5 : 0 ≤ v5 ∧ v5 ≤ 335544315 := by omega
  have Wv5 : Hid (IntKind.u64.wrap (5 * h) = v5) := Lib.hid (by rw [← hv5, IntKind.wrap_u64]; omega)
  obtain ⟨v8, hv8⟩ : ∃ v, v = 5 * i := ⟨_, rfl⟩
  have bv8 : 0 ≤ v8 ∧ v8 ≤ 335544315 := by omega
  have Wv8 : Hid (IntKind.u64.wrap (5 * i) = v8) := Lib.hid (by rw [← hv8, IntKind.wrap_u64]; omega)
  obtain ⟨v11, hv11⟩ : ∃ v, v = 5 * j := ⟨_, rfl⟩
  have bv11 : 0 ≤ v11 ∧ v11 ≤ 335544315 := by omega
  have Wv11 : Hid (IntKind.u64.wrap (5 * j) = v11) := Lib.hid (by rw [← hv11, IntKind.wrap_u64]; omega)
  obtain ⟨v20, hv20⟩ : ∃ v, v = a * f := ⟨_, rfl⟩
  have bv20 : 0 ≤ v20 ∧ v20 ≤ 18014398173937665 := by rw [hv20]; have := mulB ba bf; omega
  have Wv20 : Hid (IntKind.u64.wrap (a * f) = v20) := Lib.hid (by rw [← hv20, IntKind.wrap_u64]; omega)
  obtain ⟨v24, hv24⟩ : ∃ v, v = b * v11 := ⟨_, rfl⟩
  have bv24 : 0 ≤ v24 ∧ v24 ≤ 90071990869688325 := by rw [hv24]; have := mulB bb bv11; omega
  have Wv24 : Hid (IntKind.u64.wrap (b * v11) = v24) := Lib.hid (by rw [← hv24, IntKind.wrap_u64]; omega)
  obtain ⟨v25, hv25⟩ : ∃ v, v = v20 + v24 := ⟨_, rfl⟩
  have bv25 : 0 ≤ v25 ∧ v25 ≤ 108086389043625990 := by omega
  have Wv25 : Hid (IntKind.u64.wrap (v20 + v24) = v25) := Lib.hid (by rw [← hv25, IntKind.wrap_u64]; omega)
  obtain ⟨v29, hv29⟩ : ∃ v, v = c * v8 := ⟨_, rfl⟩
  have bv29 : 0 ≤ v29 ∧ v29 ≤ 90071990869688325 := by rw [hv29]; have := mulB bc bv8; omega
  have Wv29 : Hid (IntKind.u64.wrap (c * v8) = v29) := Lib.hid (by rw [← hv29, IntKind.wrap_u64]; omega)
  obtain ⟨v30, hv30⟩ : ∃ v, v = v25 + v29 := ⟨_, rfl⟩
  have bv30 : 0 ≤ v30 ∧ v30 ≤ 198158379913314315 := by omega
  have Wv30 : Hid (IntKind.u64.wrap (v25 + v29) = v30) := Lib.hid (by rw [← hv30, IntKind.wrap_u64]; omega)
  obtain ⟨v34, hv34⟩ : ∃ v, v = d * v5 := ⟨_, rfl⟩
  have bv34 : 0 ≤ v34 ∧ v34 ≤ 90071990869688325 := by rw [hv34]; have := mulB bd bv5; omega
  have Wv34 : Hid (IntKind.u64.wrap (d * v5) = v34) := Lib.hid (by rw [← hv34, IntKind.wrap_u64]; omega)
  obtain ⟨v35, hv35⟩ : ∃ v, v = v30 + v34 := ⟨_, rfl⟩
  have bv35 : 0 ≤ v35 ∧ v35 ≤ 288230370783002640 := by omega
  have Wv35 : Hid (IntKind.u64.wrap (v30 + v34) = v35) := Lib.hid (by rw [← hv35, IntKind.wrap_u64]; omega)
  obtain ⟨v39, hv39⟩ : ∃ v, v = e * v2 := ⟨_, rfl⟩
  have bv39 : 0 ≤ v39 ∧ v39 ≤ 90071990869688325 := by rw [hv39]; have := mulB be bv2; omega
  have Wv39 : Hid (IntKind.u64.wrap (e * v2) = v39) := Lib.hid (by rw [← hv39, IntKind.wrap_u64]; omega)
  obtain ⟨v40, hv40⟩ : ∃ v, v = v35 + v39 := ⟨_, rfl⟩
  have bv40 : 0 ≤ v40 ∧ v40 ≤ 378302361652690965 := by omega
  have Wv40 : Hid (IntKind.u64.wrap (v35 + v39) = v40) := Lib.hid (by rw [← hv40, IntKind.wrap_u64]; omega)
  obtain ⟨v45, hv45⟩ : ∃ v, v = a * g := ⟨_, rfl⟩
  have bv45 : 0 ≤ v45 ∧ v45 ≤ 18014398173937665 := by rw [hv45]; have := mulB ba bg; omega
  have Wv45 : Hid (IntKind.u64.wrap (a * g) = v45) := Lib.hid (by rw [← hv45, IntKind.wrap_u64]; omega)
  obtain ⟨v50, hv50⟩ : ∃ v, v = b * f := ⟨_, rfl⟩
  have bv50 : 0 ≤ v50 ∧ v50 ≤ 18014398173937665 := by rw [hv50]; have := mulB bb bf; omega
  have Wv50 : Hid (IntKind.u64.wrap (b * f) = v50) := Lib.hid (by rw [← hv50, IntKind.wrap_u64]; omega)
  obtain ⟨v51, hv51⟩ : ∃ v, v = v45 + v50 := ⟨_, rfl⟩
  have bv51 : 0 ≤ v51 ∧ v51 ≤ 36028796347875330 := by omega
  have Wv51 : Hid (IntKind.u64.wrap (v45 + v50) = v51) := Lib.hid (by rw [← hv51, IntKind.wrap_u64]; omega)
  obtain ⟨v55, hv55⟩ : ∃ v, v = c * v11 := ⟨_, rfl⟩
  have bv55 : 0 ≤ v55 ∧ v55 ≤ 90071990869688325 := by rw [hv55]; have := mulB bc bv11; omega
  have Wv55 : Hid (IntKind.u64.wrap (c * v11) = v55) := Lib.hid (by rw [← hv55, IntKind.wrap_u64]; omega)
  obtain ⟨v56, hv56⟩ : ∃ v, v = v51 + v55 := ⟨_, rfl⟩
  have bv56 : 0 ≤ v56 ∧ v56 ≤ 126100787217563655 := by omega
  have Wv56 : Hid (IntKind.u64.wrap (v51 + v55) = v56) := Lib.hid (by rw [← hv56, IntKind.wrap_u64]; omega)
  obtain ⟨v60, hv60⟩ : ∃ v, v = d * v8 := ⟨_, rfl⟩
  have bv60 : 0 ≤ v60 ∧ v60 ≤ 90071990869688325 := by rw [hv60]; have := mulB bd bv8; omega
  have Wv60 : Hid (IntKind.u64.wrap (d * v8) = v60) := Lib.hid (by rw [← hv60, IntKind.wrap_u64]; omega)
  obtain ⟨v61, hv61⟩ : ∃ v, v = v56 + v60 := ⟨_, rfl⟩
  have bv61 : 0 ≤ v61 ∧ v61 ≤ 216172778087251980 := by omega
  have Wv61 : Hid (IntKind.u64.wrap (v56 + v60) = v61) := Lib.hid (by rw [← hv61, IntKind.wrap_u64]; omega)
  obtain ⟨v65, hv65⟩ : ∃ v, v = e * v5 := ⟨_, rfl⟩
  have bv65 : 0 ≤ v65 ∧ v65 ≤ 90071990869688325 := by rw [hv65]; have := mulB be bv5; omega
  have Wv65 : Hid (IntKind.u64.wrap (e * v5) = v65) := Lib.hid (by rw [← hv65, IntKind.wrap_u64]; omega)
  obtain ⟨v66, hv66⟩ : ∃ v, v = v61 + v65 := ⟨_, rfl⟩
  have bv66 : 0 ≤ v66 ∧ v66 ≤ 306244768956940305 := by omega
  have Wv66 : Hid (IntKind.u64.wrap (v61 + v65) = v66) := Lib.hid (by rw [← hv66, IntKind.wrap_u64]; omega)
  obtain ⟨v71, hv71⟩ : ∃ v, v = a * h := ⟨_, rfl⟩
  have bv71 : 0 ≤ v71 ∧ v71 ≤ 18014398173937665 := by rw [hv71]; have := mulB ba bh; omega
  have Wv71 : Hid (IntKind.u64.wrap (a * h) = v71) := Lib.hid (by rw [← hv71, IntKind.wrap_u64]; omega)
  obtain ⟨v76, hv76⟩ : ∃ v, v = b * g := ⟨_, rfl⟩
  have bv76 : 0 ≤ v76 ∧ v76 ≤ 18014398173937665 := by rw [hv76]; have := mulB bb bg; omega
  have Wv76 : Hid (IntKind.u64.wrap (b * g) = v76) := Lib.hid (by rw [← hv76, IntKind.wrap_u64]; omega)
  obtain ⟨v77, hv77⟩ : ∃ v, v = v71 + v76 := ⟨_, rfl⟩
  have bv77 : 0 ≤ v77 ∧ v77 ≤ 36028796347875330 := by omega
  have Wv77 : Hid (IntKind.u64.wrap (v71 + v76) = v77) := Lib.hid (by rw [← hv77, IntKind.wrap_u64]; omega)
  obtain ⟨v82, hv82⟩ : ∃ v, v = c * f := ⟨_, rfl⟩
  have bv82 : 0 ≤ v82 ∧ v82 ≤ 18014398173937665 := by rw [hv82]; have := mulB bc bf; omega
  have Wv82 : Hid (IntKind.u64.wrap (c * f) = v82) := Lib.hid (by rw [← hv82, IntKind.wrap_u64]; omega)
  obtain ⟨v83, hv83⟩ : ∃ v, v = v77 + v82 := ⟨_, rfl⟩
  have bv83 : 0 ≤ v83 ∧ v83 ≤ 54043194521812995 := by omega
  have Wv83 : Hid (IntKind.u64.wrap (v77 + v82) = v83) := Lib.hid (by rw [← hv83, IntKind.wrap_u64]; omega)
  obtain ⟨v87, hv87⟩ : ∃ v, v = d * v11 := ⟨_, rfl⟩
  have bv87 : 0 ≤ v87 ∧ v87 ≤ 90071990869688325 := by rw [hv87]; have := mulB bd bv11; omega
  have Wv87 : Hid (IntKind.u64.wrap (d * v11) = v87) := Lib.hid (by rw [← hv87, IntKind.wrap_u64]; omega)
  obtain ⟨v88, hv88⟩ : ∃ v, v = v83 + v87 := ⟨_, rfl⟩
  have bv88 : 0 ≤ v88 ∧ v88 ≤ 144115185391501320 := by omega
  have Wv88 : Hid (IntKind.u64.wrap (v83 + v87) = v88) := Lib.hid (by rw [← hv88, IntKind.wrap_u64]; omega)
  obtain ⟨v92, hv92⟩ : ∃ v, v = e * v8 := ⟨_, rfl⟩
  have bv92 : 0 ≤ v92 ∧ v92 ≤ 90071990869688325 := by rw [hv92]; have := mulB be bv8; omega
  have Wv92 : Hid (IntKind.u64.wrap (e * v8) = v92) := Lib.hid (by rw [← hv92, IntKind.wrap_u64]; omega)
  obtain ⟨v93, hv93⟩ : ∃ v, v = v88 + v92 := ⟨_, rfl⟩
  have bv93 : 0 ≤ v93 ∧ v93 ≤ 234187176261189645 := by omega
  have Wv93 : Hid (IntKind.u64.wrap (v88 + v92) = v93) := Lib.hid (by rw [← hv93, IntKind.wrap_u64]; omega)
  obtain ⟨v98, hv98⟩ : ∃ v, v = a * i := ⟨_, rfl⟩
  have bv98 : 0 ≤ v98 ∧ v98 ≤ 18014398173937665 := by rw [hv98]; have := mulB ba bi; omega
  have Wv98 : Hid (IntKind.u64.wrap (a * i) = v98) := Lib.hid (by rw [← hv98, IntKind.wrap_u64]; omega)
  obtain ⟨v103, hv103⟩ : ∃ v, v = b * h := ⟨_, rfl⟩
  have bv103 : 0 ≤ v103 ∧ v103 ≤ 18014398173937665 := by rw [hv103]; have := mulB bb bh; omega
  have Wv103 : Hid (IntKind.u64.wrap (b * h) = v103) := Lib.hid (by rw [← hv103, IntKind.wrap_u64]; omega)
  obtain ⟨v104, hv104⟩ : ∃ v, v = v98 + v103 := ⟨_, rfl⟩
  have bv104 : 0 ≤ v104 ∧ v104 ≤ 36028796347875330 := by omega
  have Wv104 : Hid (IntKind.u64.wrap (v98 + v103) = v104) := Lib.hid (by rw [← hv104, IntKind.wrap_u64]; omega)
  obtain ⟨v109, hv109⟩ : ∃ v, v = c * g := ⟨_, rfl⟩
  have bv109 : 0 ≤ v109 ∧ v109 ≤ 18014398173937665 := by rw [hv109]; have := mulB bc bg; omega
  have Wv109 : Hid (IntKind.u64.wrap (c * g) = v109) := Lib.hid (by rw [← hv109, IntKind.wrap_u64]; omega)
  obtain ⟨v110, hv110⟩ : ∃ v, v = v104 + v109 := ⟨_, rfl⟩
  have bv110 : 0 ≤ v110 ∧ v110 ≤ 54043194521812995 := by omega
  have Wv110 : Hid (IntKind.u64.wrap (v104 + v109) = v110) := Lib.hid (by rw [← hv110, IntKind.wrap_u64]; omega)
  obtain ⟨v115, hv115⟩ : ∃ v, v = d * f := ⟨_, rfl⟩
  have bv115 : 0 ≤ v115 ∧ v115 ≤ 18014398173937665 := by rw [hv115]; have := mulB bd bf; omega
  have Wv115 : Hid (IntKind.u64.wrap (d * f) = v115) := Lib.hid (by rw [← hv115, IntKind.wrap_u64]; omega)
  obtain ⟨v116, hv116⟩ : ∃ v, v = v110 + v115 := ⟨_, rfl⟩
  have bv116 : 0 ≤ v116 ∧ v116 ≤ 72057592695750660 := by omega
  have Wv116 : Hid (IntKind.u64.wrap (v110 + v115) = v116) := Lib.hid (by rw [← hv116, IntKind.wrap_u64]; omega)
  obtain ⟨v120, hv120⟩ : ∃ v, v = e * v11 := ⟨_, rfl⟩
  have bv120 : 0 ≤ v120 ∧ v120 ≤ 90071990869688325 := by rw [hv120]; have := mulB be bv11; omega
  have Wv120 : Hid (IntKind.u64.wrap (e * v11) = v120) := Lib.hid (by rw [← hv120, IntKind.wrap_u64]; omega)
  obtain ⟨v121, hv121⟩ : ∃ v, v = v116 + v120 := ⟨_, rfl⟩
  have bv121 : 0 ≤ v121 ∧ v121 ≤ 162129583565438985 := by omega
  have Wv121 : Hid (IntKind.u64.wrap (v116 + v120) = v121) := Lib.hid (by rw [← hv121, IntKind.wrap_u64]; omega)
  obtain ⟨v126, hv126⟩ : ∃ v, v = a * j := ⟨_, rfl⟩
  have bv126 : 0 ≤ v126 ∧ v126 ≤ 18014398173937665 := by rw [hv126]; have := mulB ba bj; omega
  have Wv126 : Hid (IntKind.u64.wrap (a * j) = v126) := Lib.hid (by rw [← hv126, IntKind.wrap_u64]; omega)
  obtain ⟨v131, hv131⟩ : ∃ v, v = b * i := ⟨_, rfl⟩
  have bv131 : 0 ≤ v131 ∧ v131 ≤ 18014398173937665 := by rw [hv131]; have := mulB bb bi; omega
  have Wv131 : Hid (IntKind.u64.wrap (b * i) = v131) := Lib.hid (by rw [← hv131, IntKind.wrap_u64]; omega)
  obtain ⟨v132, hv132⟩ : ∃ v, v = v126 + v131 := ⟨_, rfl⟩
  have bv132 : 0 ≤ v132 ∧ v132 ≤ 36028796347875330 := by omega
  have Wv132 : Hid (IntKind.u64.wrap (v126 + v131) = v132) := Lib.hid (by rw [← hv132, IntKind.wrap_u64]; omega)
  obtain ⟨v137, hv137⟩ : ∃ v, v = c * h := ⟨_, rfl⟩
  have bv137 : 0 ≤ v137 ∧ v137 ≤ 18014398173937665 := by rw [hv137]; have := mulB bc bh; omega
  have Wv137 : Hid (IntKind.u64.wrap (c * h) = v137) := Lib.hid (by rw [← hv137, IntKind.wrap_u64]; omega)
  obtain ⟨v138, hv138⟩ : ∃ v, v = v132 + v137 := ⟨_, rfl⟩
  have bv138 : 0 ≤ v138 ∧ v138 ≤ 54043194521812995 := by omega
  have Wv138 : Hid (IntKind.u64.wrap (v132 + v137) = v138) := Lib.hid (by rw [← hv138, IntKind.wrap_u64]; omega)
  obtain ⟨v143, hv143⟩ : ∃ v, v = d * g := ⟨_, rfl⟩
  have bv143 : 0 ≤ v143 ∧ v143 ≤ 18014398173937665 := by rw [hv143]; have := mulB bd bg; omega
  have Wv143 : Hid (IntKind.u64.wrap (d * g) = v143) := Lib.hid (by rw [← hv143, IntKind.wrap_u64]; omega)
  obtain ⟨v144, hv144⟩ : ∃ v, v = v138 + v143 := ⟨_, rfl⟩
  have bv144 : 0 ≤ v144 ∧ v144 ≤ 72057592695750660 := by omega
  have Wv144 : Hid (IntKind.u64.wrap (v138 + v143) = v144) := Lib.hid (by rw [← hv144, IntKind.wrap_u64]; omega)
  obtain ⟨v149, hv149⟩ : ∃ v, v = e * f := ⟨_, rfl⟩
  have bv149 : 0 ≤ v149 ∧ v149 ≤ 18014398173937665 := by rw [hv149]; have := mulB be bf; omega
  have Wv149 : Hid (IntKind.u64.wrap (e * f) = v149) := Lib.hid (by rw [← hv149, IntKind.wrap_u64]; omega)
  obtain ⟨v150, hv150⟩ : ∃ v, v = v144 + v149 := ⟨_, rfl⟩
  have bv150 : 0 ≤ v150 ∧ v150 ≤ 90071990869688325 := by omega
  have Wv150 : Hid (IntKind.u64.wrap (v144 + v149) = v150) := Lib.hid (by rw [← hv150, IntKind.wrap_u64]; omega)
  have HT : Hid (timL [a, b, c, d, e] [f, g, h, i, j] = carL [v40, v66, v93, v121, v150]) := Lib.hid (by subst hv150 hv149 hv144 hv143 hv138 hv137 hv132 hv131 hv126 hv121 hv120 hv116 hv115 hv110 hv109 hv104 hv103 hv98 hv93 hv92 hv88 hv87 hv83 hv82 hv77 hv76 hv71 hv66 hv65 hv61 hv60 hv56 hv55 hv51 hv50 hv45 hv40 hv39 hv35 hv34 hv30 hv29 hv25 hv24 hv20 hv11 hv8 hv5 hv2; rfl)
  have HC := Lib.hid (pcarried_any v40 v66 v93 v121 v150 (by omega) (by omega) (by omega) (by omega) (by omega))
  have HLn := Lib.hid (carL_len v40 v66 v93 v121 v150)
  rw [HT.out]
  generalize carL [v40, v66, v93, v121, v150] = C at *
  have HB := Lib.hid (boxes3 w (ints .u64 [a, b, c, d, e]) (ints .u64 [f, g, h, i, j]) (ints .u64 [0, 0, 0, 0, 0]) 61 61 61)
  clear ba bb bc bd be bf bg bh bi bj HT hv2 bv2 hv5 bv5 hv8 bv8 hv11 bv11 hv20 bv20 hv24 bv24 hv25 bv25 hv29 bv29 hv30 bv30 hv34 bv34 hv35 bv35 hv39 bv39 hv40 bv40 hv45 bv45 hv50 bv50 hv51 bv51 hv55 bv55 hv56 bv56 hv60 bv60 hv61 bv61 hv65 bv65 hv66 bv66 hv71 bv71 hv76 bv76 hv77 bv77 hv82 bv82 hv83 bv83 hv87 bv87 hv88 bv88 hv92 bv92 hv93 bv93 hv98 bv98 hv103 bv103 hv104 bv104 hv109 bv109 hv110 bv110 hv115 bv115 hv116 bv116 hv120 bv120 hv121 bv121 hv126 bv126 hv131 bv131 hv132 bv132 hv137 bv137 hv138 bv138 hv143 bv143 hv144 bv144 hv149 bv149 hv150 bv150
  go_enter Try.func46, Try.ntmps46
  go_upto_region 1 with (fail)
  obtain ⟨H1, H2, H3, HE⟩ := HB.out
  change Code.wp _ _ _ _ (((w.alloc (.cells (ints .u64 [a, b, c, d, e]).toArray 61)).alloc (.cells (ints .u64 [f, g, h, i, j]).toArray 61)).alloc (.cells (ints .u64 [0, 0, 0, 0, 0]).toArray 61))
  generalize ((w.alloc (.cells (ints .u64 [a, b, c, d, e]).toArray 61)).alloc (.cells (ints .u64 [f, g, h, i, j]).toArray 61)).alloc (.cells (ints .u64 [0, 0, 0, 0, 0]).toArray 61) = wa at *
  obtain ⟨A, hA⟩ : ∃ A, A = w.heap.size := ⟨_, rfl⟩
  have HAW : Hid (w.heap.size ≤ A) := Lib.hid (by omega)
  rw [← hA] at H1 H2 H3 ⊢
  have H1 := Lib.hid H1
  have H2 := Lib.hid H2
  have H3 := Lib.hid H3
  have HE : Hid (Ext w wa) := Lib.hid HE
  clear hA HB
  refine wp_region_from 16 0 16 rfl (by kernel_rfl) (by kernel_rfl) (fun d v c a w h => by cases d <;> exact h) (by kernel_rfl) ?_
  refine det_index _ _ _ _ (A + 1) 5 1 (by rfl) rfl rfl rfl Try.underlying61 (by omega) (Try.sizeOf59) ?_
  simp only [Act.put, List.setIfInBounds_toArray, List.set_cons_zero, List.set_cons_succ]
  refine det_cell _ _ (A + 1) 1 (.int .u64 g) (by rfl) rfl rfl (fun w hw => (ext_blk H2.out hw).cell 1) (Try.isAgg59) ?_
  simp only [Act.put, List.setIfInBounds_toArray, List.set_cons_zero, List.set_cons_succ]
  refine det_mul _ _ _ _ _ _ _ v2 (by rfl) rfl rfl rfl Wv2.out ?_
  simp only [Act.put, List.setIfInBounds_toArray, List.set_cons_zero, List.set_cons_succ]
  refine det_index _ _ _ _ (A + 1) 5 2 (by rfl) rfl rfl rfl Try.underlying61 (by omega) (Try.sizeOf59) ?_
  simp only [Act.put, List.setIfInBounds_toArray, List.set_cons_zero, List.set_cons_succ]
  refine det_cell _ _ (A + 1) 2 (.int .u64 h) (by rfl) rfl rfl (fun w hw => (ext_blk H2.out hw).cell 2) (Try.isAgg59) ?_
  simp only [Act.put, List.setIfInBounds_toArray, List.set_cons_zero, List.set_cons_succ]
  refine det_mul _ _ _ _ _ _ _ v5 (by rfl) rfl rfl rfl Wv5.out ?_
  simp only [Act.put, List.setIfInBounds_toArray, List.set_cons_zero, List.set_cons_succ]
  refine det_index _ _ _ _ (A + 1) 5 3 (by rfl) rfl rfl rfl Try.underlying61 (by omega) (Try.sizeOf59) ?_
  simp only [Act.put, List.setIfInBounds_toArray, List.set_cons_zero, List.set_cons_succ]
  refine det_cell _ _ (A + 1) 3 (.int .u64 i) (by rfl) rfl rfl (fun w hw => (ext_blk H2.out hw).cell 3) (Try.isAgg59) ?_
  simp only [Act.put, List.setIfInBounds_toArray, List.set_cons_zero, List.set_cons_succ]
  refine det_mul _ _ _ _ _ _ _ v8 (by rfl) rfl rfl rfl Wv8.out ?_
  simp only [Act.put, List.setIfInBounds_toArray, List.set_cons_zero, List.set_cons_succ]
  refine det_index _ _ _ _ (A + 1) 5 4 (by rfl) rfl rfl rfl Try.underlying61 (by omega) (Try.sizeOf59) ?_
  simp only [Act.put, List.setIfInBounds_toArray, List.set_cons_zero, List.set_cons_succ]
  refine det_cell _ _ (A + 1) 4 (.int .u64 j) (by rfl) rfl rfl (fun w hw => (ext_blk H2.out hw).cell 4) (Try.isAgg59) ?_
  simp only [Act.put, List.setIfInBounds_toArray, List.set_cons_zero, List.set_cons_succ]
  refine det_mul _ _ _ _ _ _ _ v11 (by rfl) rfl rfl rfl Wv11.out ?_
  simp only [Act.put, List.setIfInBounds_toArray, List.set_cons_zero, List.set_cons_succ]
  refine det_assign _ (.int .u64 v2) (by rfl) rfl rfl ?_
  simp only [Act.put, List.setIfInBounds_toArray, List.set_cons_zero, List.set_cons_succ]
  refine det_assign _ (.int .u64 v5) (by rfl) rfl rfl ?_
  simp only [Act.put, List.setIfInBounds_toArray, List.set_cons_zero, List.set_cons_succ]
  refine det_assign _ (.int .u64 v8) (by rfl) rfl rfl ?_
  simp only [Act.put, List.setIfInBounds_toArray, List.set_cons_zero, List.set_cons_succ]
  refine det_assign _ (.int .u64 v11) (by rfl) rfl rfl ?_
  simp only [Act.put, List.setIfInBounds_toArray, List.set_cons_zero, List.set_cons_succ]
  refine det_nil (end_none (by kernel_rfl) (fun w1 hw1 => ?_))
  have H1 := Lib.hid (ext_blk H1.out hw1)
  have H2 := Lib.hid (ext_blk H2.out hw1)
  have H3 := Lib.hid (ext_blk H3.out hw1)
  have HE := Lib.hid (HE.out.trans hw1)
  clear hw1
  have qx0 := H1.out.cell 0
  have qy0 := H2.out.cell 0
  have qx1 := H1.out.cell 1
  have qy1 := H2.out.cell 1
  have qx2 := H1.out.cell 2
  have qy2 := H2.out.cell 2
  have qx3 := H1.out.cell 3
  have qy3 := H2.out.cell 3
  have qx4 := H1.out.cell 4
  have qy4 := H2.out.cell 4
  simp only [ints, List.map_cons, List.map_nil, List.getElem?_cons_zero, List.getElem?_cons_succ] at qx0 qy0 qx1 qy1 qx2 qy2 qx3 qy3 qx4 qy4
  have Tv20 := Wv20.out
  have Uv20 := Tv20
  rw [IntKind.wrap_u64] at Uv20
  have Tv24 := Wv24.out
  have Uv24 := Tv24
  rw [IntKind.wrap_u64] at Uv24
  have Tv25 := Wv25.out
  have Uv25 := Tv25
  rw [IntKind.wrap_u64] at Uv25
  have Tv29 := Wv29.out
  have Uv29 := Tv29
  rw [IntKind.wrap_u64] at Uv29
  have Tv30 := Wv30.out
  have Uv30 := Tv30
  rw [IntKind.wrap_u64] at Uv30
  have Tv34 := Wv34.out
  have Uv34 := Tv34
  rw [IntKind.wrap_u64] at Uv34
  have Tv35 := Wv35.out
  have Uv35 := Tv35
  rw [IntKind.wrap_u64] at Uv35
  have Tv39 := Wv39.out
  have Uv39 := Tv39
  rw [IntKind.wrap_u64] at Uv39
  have Tv40 := Wv40.out
  have Uv40 := Tv40
  rw [IntKind.wrap_u64] at Uv40
  have Tv45 := Wv45.out
  have Uv45 := Tv45
  rw [IntKind.wrap_u64] at Uv45
  have Tv50 := Wv50.out
  have Uv50 := Tv50
  rw [IntKind.wrap_u64] at Uv50
  have Tv51 := Wv51.out
  have Uv51 := Tv51
  rw [IntKind.wrap_u64] at Uv51
  have Tv55 := Wv55.out
  have Uv55 := Tv55
  rw [IntKind.wrap_u64] at Uv55
  have Tv56 := Wv56.out
  have Uv56 := Tv56
  rw [IntKind.wrap_u64] at Uv56
  have Tv60 := Wv60.out
  have Uv60 := Tv60
  rw [IntKind.wrap_u64] at Uv60
  have Tv61 := Wv61.out
  have Uv61 := Tv61
  rw [IntKind.wrap_u64] at Uv61
  have Tv65 := Wv65.out
  have Uv65 := Tv65
  rw [IntKind.wrap_u64] at Uv65
  have Tv66 := Wv66.out
  have Uv66 := Tv66
  rw [IntKind.wrap_u64] at Uv66
  have Tv71 := Wv71.out
  have Uv71 := Tv71
  rw [IntKind.wrap_u64] at Uv71
  have Tv76 := Wv76.out
  have Uv76 := Tv76
  rw [IntKind.wrap_u64] at Uv76
  have Tv77 := Wv77.out
  have Uv77 := Tv77
  rw [IntKind.wrap_u64] at Uv77
  have Tv82 := Wv82.out
  have Uv82 := Tv82
  rw [IntKind.wrap_u64] at Uv82
  have Tv83 := Wv83.out
  have Uv83 := Tv83
  rw [IntKind.wrap_u64] at Uv83
  have Tv87 := Wv87.out
  have Uv87 := Tv87
  rw [IntKind.wrap_u64] at Uv87
  have Tv88 := Wv88.out
  have Uv88 := Tv88
  rw [IntKind.wrap_u64] at Uv88
  have Tv92 := Wv92.out
  have Uv92 := Tv92
  rw [IntKind.wrap_u64] at Uv92
  have Tv93 := Wv93.out
  have Uv93 := Tv93
  rw [IntKind.wrap_u64] at Uv93
  have Tv98 := Wv98.out
  have Uv98 := Tv98
  rw [IntKind.wrap_u64] at Uv98
  have Tv103 := Wv103.out
  have Uv103 := Tv103
  rw [IntKind.wrap_u64] at Uv103
  have Tv104 := Wv104.out
  have Uv104 := Tv104
  rw [IntKind.wrap_u64] at Uv104
  have Tv109 := Wv109.out
  have Uv109 := Tv109
  rw [IntKind.wrap_u64] at Uv109
  have Tv110 := Wv110.out
  have Uv110 := Tv110
  rw [IntKind.wrap_u64] at Uv110
  have Tv115 := Wv115.out
  have Uv115 := Tv115
  rw [IntKind.wrap_u64] at Uv115
  have Tv116 := Wv116.out
  have Uv116 := Tv116
  rw [IntKind.wrap_u64] at Uv116
  have Tv120 := Wv120.out
  have Uv120 := Tv120
  rw [IntKind.wrap_u64] at Uv120
  have Tv121 := Wv121.out
  have Uv121 := Tv121
  rw [IntKind.wrap_u64] at Uv121
  have Tv126 := Wv126.out
  have Uv126 := Tv126
  rw [IntKind.wrap_u64] at Uv126
  have Tv131 := Wv131.out
  have Uv131 := Tv131
  rw [IntKind.wrap_u64] at Uv131
  have Tv132 := Wv132.out
  have Uv132 := Tv132
  rw [IntKind.wrap_u64] at Uv132
  have Tv137 := Wv137.out
  have Uv137 := Tv137
  rw [IntKind.wrap_u64] at Uv137
  have Tv138 := Wv138.out
  have Uv138 := Tv138
  rw [IntKind.wrap_u64] at Uv138
  have Tv143 := Wv143.out
  have Uv143 := Tv143
  rw [IntKind.wrap_u64] at Uv143
  have Tv144 := Wv144.out
  have Uv144 := Tv144
  rw [IntKind.wrap_u64] at Uv144
  have Tv149 := Wv149.out
  have Uv149 := Tv149
  rw [IntKind.wrap_u64] at Uv149
  have Tv150 := Wv150.out
  have Uv150 := Tv150
  rw [IntKind.wrap_u64] at Uv150
  go_wp2_with fail
  refine (HC.out _).mono ?_
  rintro x w2 ⟨rfl, hb⟩
  have H3 := Lib.hid (ext_blk H3.out hb)
  have HE := Lib.hid (HE.out.trans hb)
  clear hb
  have HI : Hid ((Try.prog.info? 61).map (·.size) = some (ints .u64 C).length) := Lib.hid (lim_size HLn.out)
  have HLz : Hid ((ints .u64 C).length = (ints .u64 [0, 0, 0, 0, 0]).length) := Lib.hid (by rw [ints_length, HLn.out]; rfl)
  go_wp2_with (refine wpList_store_blk rfl _ _ _ rfl (A + 1 + 1) (ints .u64 C) rfl rfl _ _ H3.out HLz.out HI.out (ints_one _ _) ?_; intro w5 hb5 hg5)
  refine bodyPost_ret (result_blk rfl _ (A + 1 + 1) _ _ _ _ rfl hb5 Try.underlying61 HI.out) rfl ?_
  exact ⟨rfl, ext_grown HE.out hg5 (by have := HAW.out; omega)⟩

end Go.Proofs.Ytflefkmpllbeeaa

/- The walk of package pieces' move: the next bytes of the open string, laid over a block. Each theorem names its own conditions. -/
namespace Go.Proofs.Ytflefkmpllbeeaa
open Go.RowKit
set_option linter.unusedVariables false
set_option linter.unusedSimpArgs false

theorem splice_map (l c : List UInt8) (f : Nat) : splice (l.map bval) f (c.map bval) = (l.take f ++ c ++ l.drop (f + c.length)).map bval := by
  unfold splice
  simp
theorem num_one : (Try.prog.info? 5).map (·.size) = some 1 := by kernel_rfl
/-- A slice's length. -/
def lenV : Value → Nat
  | .slice _ n _ => n
  | _ => 0
theorem lenV_row {w : World} {v : Value} {vs : List Value} (h : Row1 w v vs) : lenV v = vs.length := by
  obtain ⟨a, cap, rfl, _⟩ := h
  rfl
theorem front_take (xr : List UInt8) (n : Nat) : ∃ c : List UInt8, c.length = Nat.min xr.length n ∧ xr = c ++ xr.drop c.length ∧ c = xr.take n := by
  refine ⟨xr.take n, by rw [List.length_take, Nat.min_comm], ?_, rfl⟩
  rcases Nat.le_total n xr.length with h | h
  · rw [List.length_take, Nat.min_eq_left h, List.take_append_drop]
  · rw [List.take_of_length_le h, List.drop_length, List.append_nil]

/-- The blocks ahead of Bo, but for M, are as they were. -/
def But (M Bo : Nat) (w w' : World) : Prop := ∀ k, k < Bo → k ≠ M → w'.heap[k]? = w.heap[k]?
theorem But.refl (M Bo : Nat) (w : World) : But M Bo w w := fun _ _ _ => rfl
theorem But.trans {M Bo : Nat} {a b c : World} (h : But M Bo a b) (g : But M Bo b c) : But M Bo a c := fun k hk hM => (g k hk hM).trans (h k hk hM)
theorem But.set {M Bo : Nat} {a b : World} (h : But M Bo a b) {p : Addr} (hp : p.block = M) (v : Value) : But M Bo a (b.setCell p v) := fun k hk hM => (heap_setCell_other b p k v (by rw [hp]; exact hM)).trans (h k hk hM)
theorem But.drew {M Bo : Nat} {a b : World} (h : But M Bo a b) : But M Bo a b.drew := h
theorem But.of_below {M Bo : Nat} {a b : World} (h : Below Bo a b) : But M Bo a b := fun k hk _ => h.block k hk

set_option maxRecDepth 100000 in
set_option maxHeartbeats 4000000 in
theorem move_cap (w0 w : World) (M Bo f K C : Nat) (ov bv : Value) (o l : List UInt8) (T : TypeId) (hM : Blk w M [ov, bv] 64) (ho : Row1 w0 ov (o.map bval)) (hl : Blk w Bo (l.map bval) T) (hlen : l.length = C) (hf : f < K) (hKC : K ≤ C) (hK : C ≤ 128)
    (he : Ext w0 w) (h0 : w0.heap.size ≤ M) (hMB : M < Bo) :
    Calls Try.prog 53 #[.pointer (some ⟨M, 0, none⟩), .slice (some ⟨Bo, f, none⟩) (K - f) (C - f)] w fun e w' =>
      ∃ ov' c, c = o.take (K - f) ∧ e = .returned (.int .i64 (c.length : Int)) ∧ Blk w' M [ov', bv] 64 ∧ Row1 w0 ov' ((o.drop c.length).map bval) ∧ Blk w' Bo ((l.take f ++ c ++ l.drop (f + c.length)).map bval) T ∧ Below M w w' ∧ But M Bo w w' := by
  obtain ⟨c, hcl, hcx, hct⟩ := front_take o (K - f)
  have hcm : c.length ≤ o.length := by rw [hcl]; exact Nat.min_le_left _ _
  have hcm2 : c.length ≤ K - f := by rw [hcl]; exact Nat.min_le_right _ _
  obtain ⟨v', hv', hrun⟩ := row_cut Try.underlying26 Try.sizeOf5 ho c.length (by rw [List.length_map]; exact hcm)
  rw [← List.map_drop] at hv'
  obtain ⟨a3, cap3, rfl, t1, t2, t3, t4⟩ := ho
  rw [List.length_map] at t1 hrun hM
  unfold maxLen at t2
  have HCS : Hid (0 < (c.map bval).length → some (⟨Bo, f, none⟩ : Addr) = some ⟨Bo, f, none⟩ ∧ ∃ ad, a3 = some ad ∧ ∀ (j : Nat) (v : Value), (c.map bval)[j]? = some v → w.cell? (ad.add j) = some v) := Lib.hid (fun h => by
    rw [List.length_map] at h
    obtain ⟨b3, off3, rfl, t5, t6⟩ := t4 (by intro e; have h := congrArg List.length e; rw [List.length_map] at h; simp only [List.length_nil] at h; omega)
    refine ⟨rfl, _, rfl, fun j v hj => ?_⟩
    have hjl : j < c.length := by
      rcases Nat.lt_or_ge j c.length with h | h
      · exact h
      · rw [List.getElem?_eq_none (by rw [List.length_map]; exact h)] at hj; cases hj
    have e := t6 j (by rw [List.length_map]; omega)
    have e2 : (o.map bval)[j]? = (c.map bval)[j]? := by rw [hcx, List.map_append, List.getElem?_append_left (by rw [List.length_map]; exact hjl)]
    rw [WideShapes.add_plain, ← hj, ← e2, ← e]
    exact he.cell (p := ⟨b3, off3 + j, none⟩) t5)
  have HBO := Lib.hid (hl : w.heap[Bo]? = some (.cells (l.map bval).toArray T (0, 0)))
  have HCL : Hid ((c.map bval).length = Nat.min o.length (K - f)) := Lib.hid (by rw [List.length_map, hcl])
  have HFT2 : Hid (f + (c.map bval).length ≤ (l.map bval).length) := Lib.hid (by rw [List.length_map, List.length_map, hlen]; omega)
  have HBR := Lib.hid (Below.refl M w)
  have HSP := Lib.hid (splice_map l c f)
  have HM := Lib.hid hM
  obtain ⟨a4, cap4, rfl, _⟩ := id hv'
  have HV := Lib.hid hv'
  generalize ((o.drop c.length).map bval).length = n4 at *
  have HCT := Lib.hid hct
  have c0 := hM.cell 0
  have f0 := hM.free 0
  simp only [List.getElem?_cons_zero, List.getElem?_cons_succ] at c0
  have hcm3 : (c.length : Int) ≤ (o.length : Int) := by omega
  have hc0 : (0 : Int) ≤ (c.length : Int) := Int.natCast_nonneg _
  have hMlt := hM.lt
  clear hM hl hv' hcx hct t3 t4 he hcl
  go_enter Try.func53, Try.ntmps53
  go_upto_region 2 with (refine wpList_copy_splice rfl (.tmp 6) (.tmp 10) 26 26 rfl 5 Try.underlying26 num_one (some ⟨Bo, f, none⟩) a3 (K - f) (C - f) o.length cap3 rfl rfl Bo f (l.map bval) T HBO.out (c.map bval) HCL.out HCS.out HFT2.out (bval_one _) Bo w (Below.refl _ w) (Nat.le_refl _) ?_; intro w5 hc5 hb5)
  have hg5 := hc5.out
  rw [HSP.out] at hg5
  have HM5 := Lib.hid (HM.out.same (hb5.block M (by omega)))
  have HO5 : Hid (Blk w5 Bo ((l.take f ++ c ++ l.drop (f + c.length)).map bval) T) := Lib.hid hg5
  have HE5 := Lib.hid (hb5.mono (Nat.le_of_lt hMB))
  have HU5 : Hid (But M Bo w w5) := Lib.hid (But.of_below hb5)
  have c0 := HM5.out.cell 0
  have f0 := HM5.out.free 0
  simp only [List.getElem?_cons_zero, List.getElem?_cons_succ] at c0
  clear hc5 hb5 hg5 HCS HBO HCL HFT2 HBR HSP HM
  go_wp2_with fail
  go_ret
  exact ⟨_, c, HCT.out, rfl, HM5.out.set 0 _, HV.out, HO5.out.far (by simp; omega) _, Below.setCell HE5.out (by simp) _, HU5.out.set rfl _⟩

end Go.Proofs.Ytflefkmpllbeeaa

/- A scope in which the run jumps back to one label: what stands at each jump is proved to serve once, and the way to the label uses it. Nothing here speaks of a program. Each theorem names its own conditions. -/
namespace Go.Proofs.Ytflefkmpllbeeaa
set_option linter.unusedVariables false

section
variable {P : Program} {a : Act} {w : World} {Q : Exit → Act → World → Prop}
theorem Exit.jump_mono {l : Nat} {J J' : Act → World → Prop} (h : ∀ a w, J a w → J' a w) : ∀ {e : Exit} {a : Act} {w : World}, Exit.jump l J Q e a w → Exit.jump l J' Q e a w
  | .goto _, _, _, hh => ⟨hh.1, h _ _ hh.2⟩
  | .normal, _, _, hh => hh
  | .exit _, _, _, hh => hh
  | .ret, _, _, hh => hh
  | .panic _, _, _, hh => hh
  | .outgrown, _, _, hh => hh
theorem wp_scope_back {c rest : Code} (l : Nat) (J : Act → World → Prop) (μ : Act → World → Nat) (hf : findLabel c l = some rest)
    (first : (∀ a w, J a w → rest.wp P (Exit.jump l J Q) a w) → c.wp P (Exit.jump l J Q) a w)
    (pass : ∀ a w, J a w → rest.wp P (Exit.jump l (fun a' w' => J a' w' ∧ μ a' w' < μ a w) Q) a w) : (Code.scope c).wp P Q a w :=
  wp_scope_jumps l J μ hf (first fun a w h => Code.wp_mono (fun e a w h => Exit.jump_mono (fun _ _ h => h.1) h) (pass a w h)) pass
/-- The same, where what stands behind the label begins with nothing. -/
theorem wp_scope_back0 {c rest : Code} (l : Nat) (J : Act → World → Prop) (μ : Act → World → Nat) (hf : findLabel c l = some (Code.skip.seq rest))
    (first : (∀ a w, J a w → rest.wp P (Exit.jump l J Q) a w) → c.wp P (Exit.jump l J Q) a w)
    (pass : ∀ a w, J a w → rest.wp P (Exit.jump l (fun a' w' => J a' w' ∧ μ a' w' < μ a w) Q) a w) : (Code.scope c).wp P Q a w :=
  wp_scope_jumps l J μ hf (first fun a w h => Code.wp_mono (fun e a w h => Exit.jump_mono (fun _ _ h => h.1) h) (pass a w h)) fun a w h => wp_seq (wp_skip (pass a w h))
end

end Go.Proofs.Ytflefkmpllbeeaa

/- The walk of package pieces' Fill: a block is filled with what is still to be read. Each theorem names its own conditions. -/
namespace Go.Proofs.Ytflefkmpllbeeaa
open Go.RowKit
set_option linter.unusedVariables false
set_option linter.unusedSimpArgs false

/-- A message in block M of which r is still to be read; its strings lie in w0. -/
def MsgSt (w0 w : World) (M : Nat) (r : List UInt8) : Prop :=
  ∃ (ov bv : Value) (o : List UInt8) (ls : List (List UInt8)), Blk w M [ov, bv] 64 ∧ Row1 w0 ov (o.map bval) ∧ RowB w0 bv ls ∧ r = o ++ ls.flatten
theorem MsgSt.same {w0 w w' : World} {M : Nat} {r : List UInt8} (h : MsgSt w0 w M r) (hb : w'.heap[M]? = w.heap[M]?) : MsgSt w0 w' M r := by
  obtain ⟨ov, bv, o, ls, h1, h2⟩ := h
  exact ⟨ov, bv, o, ls, h1.same hb, h2⟩
theorem MsgSt.lt {w0 w : World} {M : Nat} {r : List UInt8} (h : MsgSt w0 w M r) : M < w.heap.size := by
  obtain ⟨ov, bv, o, ls, h1, h2⟩ := h
  exact h1.lt
/-- What is left behind the first of a list of strings. -/
theorem rowB_tail {w : World} {v : Value} {l : List UInt8} {ls : List (List UInt8)} (h : RowB w v (l :: ls)) :
    ∃ (b off cap : Nat) (x v' : Value), v = .slice (some ⟨b, off, none⟩) (ls.length + 1) cap ∧ cap ≤ maxLen ∧ b < w.heap.size ∧ w.cell? ⟨b, off, none⟩ = some x ∧ Row1 w x (l.map bval) ∧ RowB w v' ls ∧
      ∀ w', (Instr.sliceAt 56 v (some (.int .i64 1)) none none).run Try.prog w' = .ok v' w' := by
  obtain ⟨vals, hr, hlen, hx⟩ := h
  match vals, hlen with
  | x :: vals, hlen =>
    obtain ⟨v', hv', hrun⟩ := row_cut Try.underlying56 Try.sizeOf26 hr 1 (by simp)
    obtain ⟨a, cap, rfl, h1, h2, h3, h4⟩ := hr
    obtain ⟨b, off, rfl, h5, h6⟩ := h4 (by simp)
    have hl : vals.length = ls.length := by simpa using hlen
    refine ⟨b, off, cap, x, v', by rw [List.length_cons, hl], h2, h5, by simpa using h6 0 (by simp), hx 0 x l rfl rfl, ⟨vals, hv', hl, fun i y k hy hk => hx (i + 1) y k (by simpa using hy) (by simpa using hk)⟩, hrun⟩
theorem rowB_form {w : World} {v : Value} {ls : List (List UInt8)} (h : RowB w v ls) : ∃ a cap, v = .slice a ls.length cap ∧ cap ≤ maxLen ∧ ls.length ≤ cap := by
  obtain ⟨vals, hr, hlen, hx⟩ := h
  obtain ⟨a, cap, rfl, h1, h2, _⟩ := hr
  exact ⟨a, cap, by rw [hlen], h2, by omega⟩
theorem row_slice {w : World} {v : Value} {l : List Value} (h : Row1 w v l) : ∃ a n cap, v = .slice a n cap := by
  obtain ⟨a, cap, rfl, _⟩ := h
  exact ⟨_, _, _, rfl⟩
def behindAt (w : World) (M : Nat) : Nat := ((w.cell? ⟨M, 1, none⟩).map lenV).getD 0
theorem cut_row (w : World) (Bo p K C : Nat) (hp : p < K) (hKC : K ≤ C) : (Instr.sliceAt 26 (.slice (some ⟨Bo, 0, none⟩) K C) (some (.int .i64 (p : Int))) none none).run Try.prog w = .ok (.slice (some ⟨Bo, p, none⟩) (K - p) (C - p)) w := by
  have e2 : Try.prog.elem 26 = 5 := by unfold Program.elem; rw [Try.underlying26]
  have ht2 : Try.prog.underlying 26 = some (.slice (Try.prog.elem 26)) := by rw [e2]; exact Try.underlying26
  rw [run_sliceAt_slice w 26 _ _ _ _ ht2, run_slice_l (ht := ht2) (kl := .i64) (l := (p : Int)) (h0 := by omega) (h1 := by omega), e2, Try.sizeOf5]
  simp [sliced, WideShapes.add_plain, show ¬ C = p by omega]

/-- What Fill owes. -/
def FillSaid (w0 w w' : World) (M Bo K : Nat) (r l : List UInt8) (T : TypeId) (e : Ending) : Prop :=
  ∃ c, c = r.take K ∧ e = .returned (.int .i64 (c.length : Int)) ∧ MsgSt w0 w' M (r.drop K) ∧ Blk w' Bo ((c ++ l.drop c.length).map bval) T ∧ Below M w w'
/-- One more string is moved. -/
theorem fill_next {r c l1 : List UInt8} {ls : List (List UInt8)} {c2 : List UInt8} {K : Nat} (h : r = c ++ ([] ++ (l1 :: ls).flatten)) (hc : c.length ≤ K) (h2 : c2 = l1.take (K - c.length)) :
    r = (c ++ c2) ++ (l1.drop c2.length ++ ls.flatten) ∧ (c ++ c2).length ≤ K ∧ ((c ++ c2).length < K → l1.drop c2.length = []) := by
  refine ⟨?_, ?_, ?_⟩
  · rw [h, List.nil_append, List.flatten_cons, List.append_assoc]
    congr 1
    rw [← List.append_assoc]
    congr 1
    rw [h2]
    rcases Nat.le_total (K - c.length) l1.length with h | h
    · rw [List.length_take, Nat.min_eq_left h, List.take_append_drop]
    · rw [List.take_of_length_le h, List.drop_length, List.append_nil]
  · rw [List.length_append, h2, List.length_take]; omega
  · intro h3
    rw [List.length_append, h2, List.length_take] at h3
    refine List.drop_eq_nil_of_le ?_
    rw [h2, List.length_take]
    omega
theorem fill_row (c c2 l : List UInt8) : ((c ++ l.drop c.length).take c.length ++ c2 ++ (c ++ l.drop c.length).drop (c.length + c2.length)) = (c ++ c2) ++ l.drop (c ++ c2).length := by
  rw [List.take_append_of_le_length (Nat.le_refl _), List.take_length, List.length_append]
  congr 1
  rw [List.drop_append, List.drop_eq_nil_of_le (by omega), List.nil_append, List.drop_drop]
  congr 1
  omega

set_option maxRecDepth 100000 in
set_option maxHeartbeats 8000000 in
theorem fill_cap (w0 w : World) (M Bo K C : Nat) (r l : List UInt8) (T : TypeId) (hS : MsgSt w0 w M r) (hl : Blk w Bo (l.map bval) T) (hlen : l.length = C) (hK0 : 0 < K) (hKC : K ≤ C) (hK : C ≤ 128)
    (he : Ext w0 w) (h0 : w0.heap.size ≤ M) (hMB : M < Bo) :
    Calls Try.prog 45 #[.pointer (some ⟨M, 0, none⟩), .slice (some ⟨Bo, 0, none⟩) K C] w fun e w' => FillSaid w0 w w' M Bo K r l T e ∧ But M Bo w w' := by
  obtain ⟨ov, bv, o, ls, hM, ho, hb, hr⟩ := hS
  have hmv := move_cap w0 w M Bo 0 K C ov bv o l T hM ho hl hlen hK0 hKC hK he h0 hMB
  rw [Nat.sub_zero, Nat.sub_zero] at hmv
  have HMV := Lib.hid hmv
  have HB := Lib.hid hb
  have HR := Lib.hid hr
  have HE0 := Lib.hid he
  have HL := Lib.hid hlen
  clear hmv hb hr hM ho hl he hlen
  go_enter Try.func45, Try.ntmps45
  go_wp2_with fail
  refine HMV.out.mono ?_
  rintro e w1 ⟨ov1, c, hc, rfl, hM, ho, hB, hbel, hbut⟩
  have HU1 := Lib.hid hbut
  have HM1 := Lib.hid hM
  have HO1 := Lib.hid ho
  have HB1 : Hid (Blk w1 Bo ((c ++ l.drop c.length).map bval) T) := Lib.hid (by simpa using hB)
  have HE1 := Lib.hid hbel
  have HC := Lib.hid hc
  clear hM ho hB hbel hc HMV hbut
  have HREL : Hid (r = c ++ (o.drop c.length ++ ls.flatten) ∧ c.length ≤ K ∧ (c.length < K → o.drop c.length = [])) := Lib.hid (by
    refine ⟨?_, ?_, ?_⟩
    · rw [HR.out, HC.out]
      rcases Nat.le_total K o.length with h | h
      · rw [List.length_take, Nat.min_eq_left h, ← List.append_assoc, List.take_append_drop]
      · rw [List.take_of_length_le h, List.drop_length, List.nil_append]
    · rw [HC.out, List.length_take]; exact Nat.min_le_left _ _
    · intro h
      rw [HC.out, List.length_take] at h
      refine List.drop_eq_nil_of_le ?_
      rw [HC.out, List.length_take]
      show o.length ≤ min K o.length
      omega)
  go_wp2_with fail
  go_loopw [5] (fun i5 wr => ∃ (c o : List UInt8) (ls : List (List UInt8)) (ov bv : Value), i5 = .int .i64 (c.length : Int) ∧ (r = c ++ (o ++ ls.flatten) ∧ c.length ≤ K ∧ (c.length < K → o = [])) ∧ Blk wr M [ov, bv] 64 ∧ Row1 w0 ov (o.map bval) ∧ RowB w0 bv ls ∧ Blk wr Bo ((c ++ l.drop c.length).map bval) T ∧ Below M w wr ∧ But M Bo w wr) (fun _ wr => behindAt wr M)
  case atStart => exact ⟨c, o.drop c.length, ls, ov1, bv, rfl, HREL.out, HM1.out, HO1.out, HB.out, HB1.out, HE1.out, HU1.out⟩
  case round =>
    clear HREL HM1 HO1 HB HB1 HE1 HC HR HU1
    obtain ⟨c, o, ls, ov, bv, rfl, ⟨hr, hcK, hco⟩, hM, ho, hb, hB, hbel, hbut⟩ := hrel
    have HBU := Lib.hid hbut
    clear hbut
    have c0 := hM.cell 0
    have c1 := hM.cell 1
    have f0 := hM.free 0
    have f1 := hM.free 1
    simp only [List.getElem?_cons_zero, List.getElem?_cons_succ] at c0 c1
    by_cases hlt : c.length < K
    · have ho2 := hco hlt
      subst ho2
      have k1 : (c.length : Int) < (K : Int) := by omega
      cases ls with
      | nil =>
        obtain ⟨ab, capb, rfl, g1, g2⟩ := rowB_form hb
        have HF : Hid (MsgSt w0 wr M (r.drop K)) := Lib.hid ⟨ov, _, [], [], hM, ho, hb, by rw [hr]; simpa using Nat.le_of_lt hlt⟩
        have HBX := Lib.hid hB
        have HBL := Lib.hid hbel
        have HT : Hid (c = r.take K) := Lib.hid (by rw [hr]; simp only [List.flatten_nil, List.append_nil]; exact (List.take_of_length_le hcK).symm)
        clear hM ho hb hB hbel hr hco
        simp only [List.length_nil] at c1
        go_wp2_with fail
        go_ret
        unfold FillSaid
        exact ⟨⟨c, HT.out, rfl, HF.out, HBX.out, HBL.out⟩, HBU.out⟩
      | cons l1 ls =>
        obtain ⟨b', off', capb, xv, bv', rfl, g1, g2, g3, g4, g5, g6⟩ := rowB_tail hb
        obtain ⟨xa, xn, xcap, hxe⟩ := row_slice g4
        subst hxe
        obtain ⟨ba, bcap, hbe, g7, g8⟩ := rowB_form g5
        subst hbe
        have cx : wr.cell? ⟨b', off', none⟩ = some (.slice xa xn xcap) := by
          rw [← g3]
          exact (Below.trans HE0.out (hbel.mono h0)).cell (p := ⟨b', off', none⟩) g2
        have hcut := cut_row wr Bo c.length K C hlt hKC
        have n0 : (0 : Int) ≤ (ls.length : Int) := Int.natCast_nonneg _
        have n1 : (0 : Int) < (ls.length : Int) + 1 := by omega
        have n2 : (0 : Int) < ((ls.length + 1 : Nat) : Int) := by omega
        have n3 : (1 : Int) ≤ ((ls.length + 1 : Nat) : Int) := by omega
        have HFT := Lib.hid (show behindAt wr M = ls.length + 1 by unfold behindAt; rw [c1]; rfl)
        have HR := Lib.hid hr
        have HM := Lib.hid hM
        have HBX := Lib.hid hB
        have HBL := Lib.hid hbel
        have HX := Lib.hid g4
        have HBV := Lib.hid g5
        unfold maxLen at g1 g7
        clear hM ho hb hB hbel hr hco g2 g3 g4 g5
        go_upto_region 3 with (fail)
        go_region
        have HM2 : Hid (Blk ((wr.setCell ⟨M, 0, none⟩ (.slice xa xn xcap)).setCell ⟨M, 1, none⟩ (.slice ba ls.length bcap)).drew M [.slice xa xn xcap, .slice ba ls.length bcap] 64) := Lib.hid (((HM.out.set 0 _).set 1 _).drewN 1)
        have HBX2 : Hid (Blk ((wr.setCell ⟨M, 0, none⟩ (.slice xa xn xcap)).setCell ⟨M, 1, none⟩ (.slice ba ls.length bcap)).drew Bo ((c ++ l.drop c.length).map bval) T) := Lib.hid (((HBX.out.far (by simp; omega) _).far (by simp; omega) _).drewN 1)
        have HBL2 : Hid (Below M w ((wr.setCell ⟨M, 0, none⟩ (.slice xa xn xcap)).setCell ⟨M, 1, none⟩ (.slice ba ls.length bcap)).drew) := Lib.hid ((Below.setCell (Below.setCell HBL.out (by simp) _) (by simp) _).drew)
        have HBU2 : Hid (But M Bo w ((wr.setCell ⟨M, 0, none⟩ (.slice xa xn xcap)).setCell ⟨M, 1, none⟩ (.slice ba ls.length bcap)).drew) := Lib.hid ((HBU.out.set rfl _).set rfl _).drew
        generalize ((wr.setCell ⟨M, 0, none⟩ (.slice xa xn xcap)).setCell ⟨M, 1, none⟩ (.slice ba ls.length bcap)).drew = w2 at *
        clear HM HBX HBL c0 c1 f0 f1 cx
        have HMV := Lib.hid (move_cap w0 w2 M Bo c.length K C _ _ l1 (c ++ l.drop c.length) T HM2.out HX.out HBX2.out (by simp [HL.out]; omega) hlt hKC hK (Below.trans HE0.out (HBL2.out.mono h0)) h0 hMB)
        have hcut := cut_row w2 Bo c.length K C hlt hKC
        go_wp2_with fail
        refine HMV.out.mono ?_
        rintro e w3 ⟨ov', c2, hc2, rfl, hM, ho, hB, hbel, hbut⟩
        have HBU3 := Lib.hid (HBU2.out.trans hbut)
        rw [fill_row] at hB
        have HN := Lib.hid (fill_next HR.out hcK hc2)
        have HM3 := Lib.hid hM
        have HO3 := Lib.hid ho
        have HB3 := Lib.hid hB
        have HBL3 := Lib.hid (Below.trans HBL2.out hbel)
        have hc2l : (c2.length : Int) ≤ 128 := by have := HN.out.2.1; rw [List.length_append] at this; omega
        have hc20 : (0 : Int) ≤ (c2.length : Int) := Int.natCast_nonneg _
        have c1 := HM3.out.cell 1
        simp only [List.getElem?_cons_zero, List.getElem?_cons_succ] at c1
        have HMS := Lib.hid (show behindAt w3 M = ls.length by unfold behindAt; rw [c1]; rfl)
        clear hM ho hB hbel hbut hc2 HMV HM2 HBX2 HBL2 c1
        go_wp2_with fail
        go_roundw
        case rel => exact ⟨c ++ c2, _, ls, _, _, by rw [List.length_append]; go_num, HN.out, HM3.out, HO3.out, HBV.out, HB3.out, HBL3.out, HBU3.out⟩
        case measure => rw [HMS.out, HFT.out]; omega
    · have hcK2 : c.length = K := by omega
      have hlt2 : ¬ (c.length : Int) < (K : Int) := by omega
      have hd2 : decide ((c.length : Int) < (K : Int)) = false := decide_eq_false hlt2
      have HF : Hid (MsgSt w0 wr M (r.drop K)) := Lib.hid ⟨ov, bv, o, ls, hM, ho, hb, by rw [hr, List.drop_append_of_le_length (by omega), List.drop_of_length_le (by omega), List.nil_append]⟩
      have HBX := Lib.hid hB
      have HBL := Lib.hid hbel
      have HT : Hid (c = r.take K) := Lib.hid (by rw [hr, List.take_append_of_le_length (by omega), List.take_of_length_le (by omega)])
      clear hM ho hb hB hbel hr hco hcK2
      go_wp2_with fail
      go_ret
      unfold FillSaid
      exact ⟨⟨c, HT.out, rfl, HF.out, HBX.out, HBL.out⟩, HBU.out⟩

theorem fill_any (w0 w : World) (M Bo K : Nat) (r l : List UInt8) (T : TypeId) (hS : MsgSt w0 w M r) (hl : Blk w Bo (l.map bval) T) (hlen : l.length = K) (hK0 : 0 < K) (hK : K ≤ 128)
    (he : Ext w0 w) (h0 : w0.heap.size ≤ M) (hMB : M < Bo) :
    Calls Try.prog 45 #[.pointer (some ⟨M, 0, none⟩), .slice (some ⟨Bo, 0, none⟩) K K] w fun e w' => FillSaid w0 w w' M Bo K r l T e :=
  (fill_cap w0 w M Bo K K r l T hS hl hlen hK0 (Nat.le_refl _) hK he h0 hMB).mono fun _ _ h => h.1

end Go.Proofs.Ytflefkmpllbeeaa

/- The walk of package pieces' Of. Each theorem names its own conditions. -/
namespace Go.Proofs.Ytflefkmpllbeeaa
open Go.RowKit
set_option linter.unusedVariables false
set_option linter.unusedSimpArgs false

theorem msg_size : (Try.prog.info? 64).map (·.size) = some (#[Value.slice none 0 0, Value.slice none 0 0]).size := by kernel_rfl

set_option maxRecDepth 100000 in
set_option maxHeartbeats 4000000 in
theorem of_any (a : Option Addr) (n cap : Nat) (w : World) :
    Calls Try.prog 28 #[.slice a n cap] w fun e w' => e = .returned (.agg #[.slice none 0 0, .slice a n cap]) ∧ Below w.heap.size w w' := by
  go_enter Try.func28, Try.ntmps28
  go_wp2_with fail
  refine bodyPost_ret (results_cell_row rfl _ _ w.heap.size _ _ _ _ rfl (Blk.made w [.slice none 0 0, .slice a n cap] 64) Try.underlying64 rfl msg_size) rfl ?_
  exact ⟨rfl, Ext.alloc w (.cells #[.slice none 0 0, .slice a n cap] 64)⟩

end Go.Proofs.Ytflefkmpllbeeaa

/- clear(s) of a slice of bytes that lies in a block known whole. Nothing here speaks of a program. Each theorem names its own conditions. -/
namespace Go.Proofs.Ytflefkmpllbeeaa
open Go.RowKit
set_option linter.unusedVariables false

section
variable {P : Program} {w : World}
theorem zeroCells_one (x : Value) (n : Nat) : (Builtin.zeroCells #[x] n).toList = List.replicate n x := by
  unfold Builtin.zeroCells
  rw [Array.toList_map]
  apply List.ext_getElem
  · simp
  · intro i h1 h2
    simp [Nat.mod_one]
theorem run_clear_bytes {t e ty : TypeId} (ht : P.underlying t = some (.slice e)) (hz : ∀ w, (zeroValue e).run P w = .ok (.int .u8 0) w) (c o n cap : Nat) (cs : List Value) (tb : TypeId) (hb : Blk w c cs tb) (hn : o + n ≤ cs.length) :
    (Builtin.clear_ #[t] ty #[.slice (some ⟨c, o, none⟩) n cap]).run P w = .ok (.tuple #[]) (w.setCells c o (List.replicate n (.int .u8 0))) := by
  cases n with
  | zero => simp [Builtin.clear_, run_underlying ht, World.setCells]
  | succ n =>
    have hst := run_storeCells_cells (P := P) c o (List.replicate (n + 1) (.int .u8 0)) 0 w (fun j hj => by
      rw [hb.cell, List.getElem?_eq_getElem (by rw [List.length_replicate] at hj; omega)]
      rfl) (fun j _ => hb.free _) (fun v hv => by rw [List.eq_of_mem_replicate hv]; rfl)
    rw [Nat.add_zero] at hst
    simp [Builtin.clear_, run_underlying ht, hz, Value.cells, zeroCells_one, hst]
end

theorem laid_append : ∀ (vs a b : List Value), vs.length = b.length → laid (a ++ b) a.length vs = a ++ vs
  | [], a, [], _ => rfl
  | v :: r, a, x :: b, h => by
    rw [laid, List.set_append_right _ _ (Nat.le_refl _), Nat.sub_self, List.set_cons_zero]
    have ih := laid_append r (a ++ [v]) b (by simpa using h)
    simpa using ih

end Go.Proofs.Ytflefkmpllbeeaa

/- The walk of package poly's folded. Each theorem names its own conditions. -/
namespace Go.Proofs.Ytflefkmpllbeeaa
open Go.RowKit
set_option linter.unusedVariables false
set_option linter.unusedSimpArgs false

/-- A slice of an array from a variable on, its end too. -/
theorem cut_end {P : Program} {t : TypeId} {n : Nat} {e : TypeId} (ht : P.underlying t = some (.array n e)) (h : ∀ w, (sizeOf e).run P w = .ok 1 w) (w : World) (A p : Nat) (hp : p ≤ n) :
    ∃ o, o + (n - p) ≤ n ∧ (p < n → o = p) ∧ (Instr.sliceAt t (.pointer (some ⟨A, 0, none⟩)) (some (.int .i64 (p : Int))) none none).run P w = .ok (.slice (some ⟨A, o, none⟩) (n - p) (n - p)) w := by
  have e1 : P.arrayLen t = n := by unfold Program.arrayLen; rw [ht]
  have e2 : P.elem t = e := by unfold Program.elem; rw [ht]
  have hr := run_sliceAt_array_l w t ⟨A, 0, none⟩ (by rw [e1, e2]; exact ht) .i64 (p : Int) (by omega) (by rw [e1]; omega)
  rw [e2, h, e1] at hr
  by_cases hpn : n = p
  · refine ⟨0, by omega, by omega, ?_⟩
    rw [hr]
    simp [slicedAt, hpn]
  · refine ⟨p, by omega, fun _ => rfl, ?_⟩
    rw [hr]
    simp [slicedAt, Addr.add, hpn]
    exact fun h => h.symm
/-- The 1 and the noughts behind it, laid over a block. -/
theorem laid_one (c l : List UInt8) (f o : Nat) (hf : c.length = f) (h16 : f ≤ 16) (hl : l.length = 17) (ho : f + 1 < 17 → o = f + 1) :
    laid (((c ++ l.drop f).map bval).set f (.int .u8 1)) o (List.replicate (16 - f) (.int .u8 0)) = (onB c).map bval := by
  have e0 : (Value.int .u8 1) = bval 1 := rfl
  have e1 : (c ++ l.drop f).set f 1 = c ++ [1] ++ l.drop (f + 1) := by
    rw [List.set_append_right _ _ (by omega), hf, Nat.sub_self, List.append_assoc]
    congr 1
    rw [List.drop_eq_getElem_cons (by omega), List.set_cons_zero]
    rfl
  have e2 : (List.replicate (16 - f) (Value.int .u8 0)) = (List.replicate (16 - f) (0 : UInt8)).map bval := by rw [List.map_replicate]; rfl
  rw [e0, ← List.map_set, e1, e2]
  unfold onB
  rw [hf]
  by_cases h : f + 1 < 17
  · rw [ho h, List.map_append]
    have h3 : f + 1 = ((c ++ [1]).map bval).length := by simp; omega
    have h4 := laid_append ((List.replicate (16 - f) (0 : UInt8)).map bval) ((c ++ [1]).map bval) ((l.drop (f + 1)).map bval) (by simp; omega)
    rw [← h3] at h4
    rw [h4, ← List.map_append]
    simp
  · have h3 : f = 16 := by omega
    subst h3
    simp [laid, hl]
theorem fL_near {R : List Int} (hR : Lim 67108863 R) (m : List UInt8) : ∀ n, Near (fL R m n)
  | 0 => Near.zero
  | n + 1 => by
    have a := addL_val (fL_near hR m n).lim (blk_lim m n).1
    exact (timL_val (a.1.up (by omega)) hR).1
theorem ptimesL_any {x y : List Int} (hx : Lim 268435455 x) (hy : Lim 67108863 y) (w : World) :
    Calls Try.prog 46 #[.agg (ints .u64 x).toArray, .agg (ints .u64 y).toArray] w fun e w' => e = .returned (.agg (ints .u64 (timL x y)).toArray) ∧ Below w.heap.size w w' := by
  obtain ⟨a, b, c, d, e, rfl, h1, h2, h3, h4, h5⟩ := hx
  obtain ⟨f, g, h, i, j, rfl, k1, k2, k3, k4, k5⟩ := hy
  exact ptimes_any a b c d e f g h i j h1 h2 h3 h4 h5 k1 k2 k3 k4 k5 w
theorem rowB_any {w : World} {v : Value} {ls : List (List UInt8)} (h : RowB w v ls) : ∃ a cap, v = .slice a ls.length cap := by
  obtain ⟨a, cap, rfl, _⟩ := rowB_form h
  exact ⟨a, cap, rfl⟩

/-- The state of the fold of m: n blocks folded, the next piece of it laid in the block. -/
structure PlySt (w0 w : World) (A B : Nat) (R : List Int) (m : List UInt8) (n : Nat) (c l : List UInt8) : Prop where
  all : l.length = 17
  piece : c = (m.drop (16 * n)).take 16
  few : n ≤ (m.length + 15) / 16
  msg : MsgSt w0 w A ((m.drop (16 * n)).drop 16)
  blkR : Blk w (A + 1) (ints .u64 R) 61
  blkZ : Blk w (A + 1 + 1) (ints .u64 (List.replicate 5 0)) 61
  blkS : Blk w (A + 1 + 1 + 1) (ints .u64 (fL R m n)) 61
  blkX : Blk w B ((c ++ l.drop c.length).map bval) 58

set_option maxRecDepth 100000 in
set_option maxHeartbeats 8000000 in
theorem pfolded_any (v : Value) (ls : List (List UInt8)) (R : List Int) (w0 w : World) (hv : RowB w0 v ls) (he0 : Ext w0 w) (hR : Lim 67108863 R) (hm : ls.flatten.length ≤ 1099511627776) :
    Calls Try.prog 27 #[.agg #[.slice none 0 0, v], .agg (ints .u64 R).toArray] w fun e w' => e = .returned (.agg (ints .u64 (fL R ls.flatten ((ls.flatten.length + 15) / 16))).toArray) ∧ Below w.heap.size w w' := by
  obtain ⟨a, cap, rfl⟩ := rowB_any hv
  obtain ⟨m, hmm⟩ : ∃ m, m = ls.flatten := ⟨_, rfl⟩
  rw [← hmm] at hm ⊢
  have HMD := Lib.hid hmm
  have HRB := Lib.hid hv
  have HE0 := Lib.hid he0
  have HR := Lib.hid hR
  have HML := Lib.hid hm
  have HB := Lib.hid (boxes4 w [.slice none 0 0, .slice a ls.length cap] (ints .u64 R) (ints .u64 (List.replicate 5 0)) (ints .u64 (List.replicate 5 0)) 64 61 61 61)
  clear hmm hv he0 hR hm
  go_enter Try.func27, Try.ntmps27
  go_upto_region 2 with (fail)
  obtain ⟨H1, H2, H3, H4, HE⟩ := HB.out
  change Code.wp _ _ _ _ ((((w.alloc (.cells #[.slice none 0 0, .slice a ls.length cap] 64)).alloc (.cells (ints .u64 R).toArray 61)).alloc (.cells (ints .u64 (List.replicate 5 0)).toArray 61)).alloc (.cells (ints .u64 (List.replicate 5 0)).toArray 61))
  change Blk ((((w.alloc (.cells #[.slice none 0 0, .slice a ls.length cap] 64)).alloc (.cells (ints .u64 R).toArray 61)).alloc (.cells (ints .u64 (List.replicate 5 0)).toArray 61)).alloc (.cells (ints .u64 (List.replicate 5 0)).toArray 61)) w.heap.size [.slice none 0 0, .slice a ls.length cap] 64 at H1
  generalize (((w.alloc (.cells #[.slice none 0 0, .slice a ls.length cap] 64)).alloc (.cells (ints .u64 R).toArray 61)).alloc (.cells (ints .u64 (List.replicate 5 0)).toArray 61)).alloc (.cells (ints .u64 (List.replicate 5 0)).toArray 61) = wa at *
  obtain ⟨A, hA⟩ : ∃ A, A = w.heap.size := ⟨_, rfl⟩
  have HAW : Hid (w.heap.size ≤ A) := Lib.hid (by omega)
  have HAW0 : Hid (w0.heap.size ≤ A) := Lib.hid (by rw [hA]; exact HE0.out.size)
  rw [← hA] at H1 H2 H3 H4 ⊢
  have HM : Hid (MsgSt w0 wa A m) := Lib.hid ⟨_, _, [], ls, H1, Row1.nil w0, HRB.out, by rw [HMD.out]; simp⟩
  have H2 := Lib.hid H2
  have H3 := Lib.hid H3
  have H4 : Hid (Blk wa (A + 1 + 1 + 1) (ints .u64 (fL R m 0)) 61) := Lib.hid H4
  have HE : Hid (Ext w wa) := Lib.hid HE
  clear hA HB H1
  have HXA := Ext.alloc wa (.cells (ints .u8 (List.replicate 17 0)).toArray 58)
  obtain ⟨B, hB⟩ : ∃ B, B = wa.heap.size := ⟨_, rfl⟩
  have HAB : Hid (A + 1 + 1 + 1 < B) := Lib.hid (by have := H4.out.lt; omega)
  have HO : Hid (Blk (wa.alloc (.cells (ints .u8 (List.replicate 17 0)).toArray 58)) B ((List.replicate 17 (0 : UInt8)).map bval) 58) := Lib.hid (by rw [hB]; exact Blk.made wa (ints .u8 (List.replicate 17 0)) 58)
  have HM := Lib.hid (HM.out.same (heap_alloc_old wa (.cells (ints .u8 (List.replicate 17 0)).toArray 58) HM.out.lt))
  have H2 := Lib.hid (ext_blk H2.out HXA)
  have H3 := Lib.hid (ext_blk H3.out HXA)
  have H4 := Lib.hid (ext_blk H4.out HXA)
  have HE := Lib.hid (HE.out.trans HXA)
  clear HXA
  go_upto_region 3 with (fail)
  change Code.wp _ _ _ _ (wa.alloc (.cells (ints .u8 (List.replicate 17 0)).toArray 58))
  rw [← hB]
  clear hB
  generalize wa.alloc (.cells (ints .u8 (List.replicate 17 0)).toArray 58) = wb at *
  have HF := Lib.hid (fill_cap w0 wb A B 16 17 m (List.replicate 17 0) 58 HM.out HO.out rfl (by omega) (by omega) (by omega) (HE0.out.trans HE.out) HAW0.out (by have := HAB.out; omega))
  clear HM HO
  go_wp2_with fail
  refine HF.out.mono ?_
  rintro e w7 ⟨hf, hbut⟩
  unfold FillSaid at hf
  obtain ⟨c, hc, rfl, hM, hO, hbel⟩ := hf
  have HE7 : Hid (Ext w w7) := Lib.hid (Below.trans HE.out (hbel.mono HAW.out))
  have HST : Hid (PlySt w0 w7 A B R m 0 c (List.replicate 17 0)) := Lib.hid ⟨rfl, hc, by omega, hM, H2.out.same (hbut (A + 1) (by have := HAB.out; omega) (by omega)), H3.out.same (hbut (A + 1 + 1) (by have := HAB.out; omega) (by omega)), H4.out.same (hbut (A + 1 + 1 + 1) (by have := HAB.out; omega) (by omega)), hO⟩
  clear H2 H3 H4 HE hc hM hO hbel hbut HF
  go_wp2_with fail
  go_loopg [7] (m.length + 16) (fun gk i7 wr => ∃ (n : Nat) (c l : List UInt8), gk = m.length + 16 - n ∧ i7 = .int .i64 (c.length : Int) ∧ PlySt w0 wr A B R m n c l ∧ Ext w wr)
  case atStart => exact ⟨0, c, List.replicate 17 0, rfl, rfl, HST.out, HE7.out⟩
  case round =>
    clear HST HE7
    obtain ⟨n, c, l, hgk, rfl, hst, hbel⟩ := hrel
    have c0 : (0 : Int) ≤ (c.length : Int) := Int.natCast_nonneg _
    have hc16 : c.length ≤ 16 := by rw [hst.piece, List.length_take]; omega
    have hcl : c.length = min 16 (m.length - 16 * n) := by rw [hst.piece, piece_len]
    have HGK := Lib.hid hgk
    have HCL := Lib.hid hcl
    have HST := Lib.hid hst
    have HE := Lib.hid hbel
    clear hgk hst hbel hcl
    obtain ⟨f, hf⟩ : ∃ f, f = c.length := ⟨_, rfl⟩
    have HFE := Lib.hid hf
    rw [← hf] at c0 hc16 ⊢
    clear hf
    by_cases hpos : 0 < f
    · have g1 : (0 : Int) < (f : Int) := by omega
      have g2 : (f : Int) < 17 := by omega
      have g3 : (f : Int) + 1 ≤ 17 := by omega
      have HXL : Hid ((c ++ l.drop c.length).length = 17) := Lib.hid (by rw [List.length_append, List.length_drop, HST.out.all, ← HFE.out]; omega)
      have q0 : wr.cell? ⟨B, f, none⟩ = some (.int .u8 (((c ++ l.drop c.length).getD f 0).toNat : Int)) := by rw [HST.out.blkX.cell, bval_get (by rw [HXL.out]; omega)]
      have f0 := HST.out.blkX.free f
      have HB3 := Lib.hid (HST.out.blkX.set f (.int .u8 1))
      generalize (((c ++ l.drop c.length).getD f 0).toNat : Int) = z0 at *
      obtain ⟨o, ho1, ho2, hs⟩ := cut_end Try.underlying58 Try.sizeOf5 (wr.setCell ⟨B, f, none⟩ (.int .u8 1)) B (f + 1) (by omega)
      have ef : ((f + 1 : Nat) : Int) = (f : Int) + 1 := by omega
      rw [ef] at hs
      have hcl := run_clear_bytes (ty := 0) Try.underlying26 Try.zeroValue5 B o (16 - f) (16 - f) _ _ HB3.out (by have := HXL.out; simp; simp at this; omega)
      have HLL := Lib.hid (laid_one c l f o HFE.out.symm hc16 HST.out.all ho2)
      clear ho1 ho2 ef
      go_upto_region 8 with (fail)
      have HX := Blk.setCells (List.replicate (16 - f) (.int .u8 0)) _ o _ HB3.out
      rw [← HFE.out, HLL.out, bval_ints] at HX
      have hg : wr.grownBy ((wr.setCell ⟨B, f, none⟩ (.int .u8 1)).setCells B o (List.replicate (16 - f) (.int .u8 0))) (some B) := grownBy_setCells _ _ _ _ (grownBy_set (grownBy_refl wr _) _ _)
      have HR2 := Lib.hid (HST.out.blkR.grown hg (by have := HAB.out; simp; omega))
      have HZ2 := Lib.hid (HST.out.blkZ.grown hg (by have := HAB.out; simp; omega))
      have HS2 := Lib.hid (HST.out.blkS.grown hg (by have := HAB.out; simp; omega))
      have HM2 := Lib.hid (HST.out.msg.same (hg.block A HST.out.msg.lt (by have := HAB.out; simp; omega)))
      have HE := Lib.hid (ext_grown HE.out hg (by have := HAB.out; have := HAW.out; omega))
      have HX := Lib.hid HX
      generalize (wr.setCell ⟨B, f, none⟩ (.int .u8 1)).setCells B o (List.replicate (16 - f) (.int .u8 0)) = w4 at *
      clear hg HB3 HLL hcl hs q0 f0
      have HC : Hid (c = (m.drop (16 * n)).take 16) := Lib.hid HST.out.piece
      have HF1 : Hid (fL R m (n + 1) = timL (addL (fL R m n) (limL (iB (onB c)))) R) := Lib.hid (by rw [HC.out, fL])
      have HNE := Lib.hid (fL_near HR.out m n)
      have HD : Hid (D17 (iB (onB c))) := Lib.hid (D17_iB (onB_length (by rw [← HFE.out]; exact hc16)))
      have HOL : Hid ((onB c).length = 17) := Lib.hid (onB_length (by rw [← HFE.out]; exact hc16))
      have hlm := limL_val HD.out
      have hal := addL_val HNE.out.lim hlm.1
      have HLM := Lib.hid hlm.1
      have HAL := Lib.hid (hal.1.up (N := 268435455) (by omega))
      have HFL := Lib.hid HST.out.few
      have HLA := Lib.hid HST.out.all
      clear hlm hal
      have HT1 : Hid ((timL (addL (fL R m n) (limL (iB (onB c)))) R).length = 5) := Lib.hid (by rw [← HF1.out]; exact (fL_near HR.out m (n + 1)).lim.len)
      obtain ⟨x, hx⟩ : ∃ x, x = iB (onB c) := ⟨_, rfl⟩
      rw [← hx] at HX HF1 HD HLM HAL HT1
      obtain ⟨s, hs⟩ : ∃ s, s = fL R m n := ⟨_, rfl⟩
      rw [← hs] at HS2 HF1 HNE HAL HT1
      obtain ⟨y, hy⟩ : ∃ y, y = limL x := ⟨_, rfl⟩
      rw [← hy] at HF1 HLM HAL HT1
      obtain ⟨p, hp⟩ : ∃ p, p = addL s y := ⟨_, rfl⟩
      rw [← hp] at HF1 HAL HT1
      obtain ⟨u, hu⟩ : ∃ u, u = timL p R := ⟨_, rfl⟩
      rw [← hu] at HF1 HT1
      have HC1 : Hid (∀ w, Calls Try.prog 29 #[.agg (ints .u8 x).toArray] w fun e w' => e = .returned (.agg (ints .u64 y).toArray) ∧ Below w.heap.size w w') := Lib.hid (fun w => by rw [hy]; exact plimbs_any x w HD.out)
      have HC2 : Hid (∀ w, Calls Try.prog 33 #[.agg (ints .u64 s).toArray, .agg (ints .u64 y).toArray] w fun e w' => e = .returned (.agg (ints .u64 p).toArray) ∧ Below w.heap.size w w') := Lib.hid (fun w => by rw [hp]; exact pplus_any s y w (HNE.out.lim.up (by omega)) (HLM.out.up (by omega)))
      have HC3 : Hid (∀ w, Calls Try.prog 46 #[.agg (ints .u64 p).toArray, .agg (ints .u64 R).toArray] w fun e w' => e = .returned (.agg (ints .u64 u).toArray) ∧ Below w.heap.size w w') := Lib.hid (fun w => by rw [hu]; exact ptimesL_any HAL.out HR.out w)
      have HIs := Lib.hid (lim_size HNE.out.lim.len)
      have HIx := Lib.hid (blk_size17 HD.out.1)
      have HIR := Lib.hid (lim_size HR.out.len)
      have HIu := Lib.hid (lim_size HT1.out)
      have HLu : Hid ((ints .u64 u).length = (ints .u64 s).length) := Lib.hid (by rw [ints_length, ints_length, HT1.out, HNE.out.lim.len])
      have HSE := Lib.hid hs
      have HXE := Lib.hid hx
      clear hs hx hy hp hu
      refine wp_region_from 6 1 6 rfl (by kernel_rfl) (by kernel_rfl) (fun d v c a w h => by cases d <;> exact h) (by kernel_rfl) ?_
      refine det_load _ _ (A + 1 + 1 + 1) (ints .u64 s) _ (by rfl) rfl rfl (fun w hw => ext_range HS2.out hw) Try.underlying61 rfl HIs.out ?_
      simp only [Act.put, List.setIfInBounds_toArray, List.set_cons_zero, List.set_cons_succ]
      refine det_load _ _ B (ints .u8 x) _ (by rfl) rfl rfl (fun w hw => ext_range HX.out hw) Try.underlying58 rfl HIx.out ?_
      simp only [Act.put, List.setIfInBounds_toArray, List.set_cons_zero, List.set_cons_succ]
      refine det_call _ _ _ [.agg (ints .u8 x).toArray] (.agg (ints .u64 y).toArray) (by rfl) rfl Try.call29 rfl (fun w hw => HC1.out w) ?_
      simp only [Act.put, List.setIfInBounds_toArray, List.set_cons_zero, List.set_cons_succ]
      refine det_call _ _ _ [.agg (ints .u64 s).toArray, .agg (ints .u64 y).toArray] (.agg (ints .u64 p).toArray) (by rfl) rfl Try.call33 rfl (fun w hw => HC2.out w) ?_
      simp only [Act.put, List.setIfInBounds_toArray, List.set_cons_zero, List.set_cons_succ]
      refine det_load _ _ (A + 1) (ints .u64 R) _ (by rfl) rfl rfl (fun w hw => ext_range HR2.out hw) Try.underlying61 rfl HIR.out ?_
      simp only [Act.put, List.setIfInBounds_toArray, List.set_cons_zero, List.set_cons_succ]
      refine det_call _ _ _ [.agg (ints .u64 p).toArray, .agg (ints .u64 R).toArray] (.agg (ints .u64 u).toArray) (by rfl) rfl Try.call46 rfl (fun w hw => HC3.out w) ?_
      simp only [Act.put, List.setIfInBounds_toArray, List.set_cons_zero, List.set_cons_succ]
      refine det_nil (end_store (k := 6) rfl (by kernel_rfl) (by kernel_rfl) (by kernel_rfl) rfl (fun w5 hw5 => ?_))
      have HR2 := Lib.hid (ext_blk HR2.out hw5)
      have HZ2 := Lib.hid (ext_blk HZ2.out hw5)
      have HX := Lib.hid (ext_blk HX.out hw5)
      have HS2 := Lib.hid (ext_blk HS2.out hw5)
      have HM2 := Lib.hid (HM2.out.same (hw5.block A HM2.out.lt))
      have HE := Lib.hid (HE.out.trans hw5)
      clear hw5
      refine wp_store_blk _ _ _ rfl (A + 1 + 1 + 1) (ints .u64 u) rfl rfl _ _ HS2.out HLu.out HIu.out (ints_one _ _) ?_
      intro w6 hb6 hg6
      have HR2 := Lib.hid (HR2.out.grown hg6 (by simp; omega))
      have HZ2 := Lib.hid (HZ2.out.grown hg6 (by simp))
      have HX := Lib.hid (HX.out.grown hg6 (by have := HAB.out; simp; omega))
      have HM2 := Lib.hid (HM2.out.same (hg6.block A HM2.out.lt (by simp; omega)))
      have HE := Lib.hid (ext_grown HE.out hg6 (by have := HAW.out; omega))
      have HS2 := Lib.hid hb6
      clear hb6 hg6
      rw [HXE.out, ← bval_ints] at HX
      have HF := Lib.hid (fill_cap w0 w6 A B 16 17 ((m.drop (16 * n)).drop 16) (onB c) 58 HM2.out HX.out HOL.out (by omega) (by omega) (by omega) (HE0.out.trans HE.out) HAW0.out (by have := HAB.out; omega))
      clear HM2
      go_wp2_with fail
      refine HF.out.mono ?_
      rintro e w7 ⟨hf, hbut⟩
      unfold FillSaid at hf
      obtain ⟨c2, hc2, rfl, hM, hO, hbel⟩ := hf
      have e16 : (m.drop (16 * n)).drop 16 = m.drop (16 * (n + 1)) := by rw [List.drop_drop, show 16 * n + 16 = 16 * (n + 1) from by omega]
      rw [e16] at hc2 hM
      have HE7 : Hid (Ext w w7) := Lib.hid (Below.trans HE.out (hbel.mono HAW.out))
      have HST7 : Hid (PlySt w0 w7 A B R m (n + 1) c2 (onB c)) := Lib.hid ⟨HOL.out, hc2, by have h1 := HCL.out; have h2 := HFE.out; omega, hM, HR2.out.same (hbut (A + 1) (by have := HAB.out; omega) (by omega)), HZ2.out.same (hbut (A + 1 + 1) (by have := HAB.out; omega) (by omega)), by rw [HF1.out]; exact HS2.out.same (hbut (A + 1 + 1 + 1) (by have := HAB.out; omega) (by omega)), hO⟩
      have HNL : Hid (n < m.length + 16) := Lib.hid (by have := HFL.out; omega)
      clear hc2 hM hO hbel hbut HF e16
      go_wp2_with fail
      go_roundg (m.length + 16 - (n + 1))
      case rel => exact ⟨n + 1, c2, onB c, rfl, rfl, HST7.out, HE7.out⟩
      case measure => have := HGK.out; have := HNL.out; omega
    · have g1 : ¬ (0 : Int) < (f : Int) := by omega
      have d1 : decide ((0 : Int) < (f : Int)) = false := decide_eq_false g1
      have HN : Hid (n = (m.length + 15) / 16) := Lib.hid (by have h1 := HST.out.few; have h2 := HCL.out; have h3 := HFE.out; omega)
      have HS2 := Lib.hid HST.out.blkS
      have HZ2 := Lib.hid HST.out.blkZ
      have HL : Hid ((fL R m n).length = 5) := Lib.hid (fL_near HR.out m n).lim.len
      obtain ⟨s, hs⟩ : ∃ s, s = fL R m n := ⟨_, rfl⟩
      rw [← hs] at HS2 HL
      have HSE := Lib.hid hs
      clear hs
      have HI : Hid ((Try.prog.info? 61).map (·.size) = some (ints .u64 s).length) := Lib.hid (lim_size HL.out)
      have HLz : Hid ((ints .u64 s).length = (ints .u64 (List.replicate 5 0)).length) := Lib.hid (by rw [ints_length, HL.out]; rfl)
      go_wp2_with (first | (refine wpList_load_blk rfl _ _ rfl (A + 1 + 1 + 1) rfl _ _ _ _ HS2.out Try.underlying61 HI.out ?_) | (refine wpList_store_blk rfl _ _ _ rfl (A + 1 + 1) (ints .u64 s) rfl rfl _ _ HZ2.out HLz.out HI.out (ints_one _ _) ?_; intro w5 hb5 hg5))
      refine bodyPost_ret (result_blk rfl _ (A + 1 + 1) _ _ _ _ rfl hb5 Try.underlying61 HI.out) rfl ?_
      exact ⟨by rw [HSE.out, HN.out], ext_grown HE.out hg5 (by have := HAW.out; omega)⟩

end Go.Proofs.Ytflefkmpllbeeaa

/- The walks of package poly's reduced, clamped, blockOf. Each theorem names its own conditions. -/
namespace Go.Proofs.Ytflefkmpllbeeaa
open Go.RowKit
set_option linter.unusedVariables false
set_option linter.unusedSimpArgs false

set_option maxRecDepth 100000 in
set_option maxHeartbeats 8000000 in
theorem preduced_any (x : List Int) (w : World) (hx : Lim 268435455 x) :
    Calls Try.prog 34 #[.agg (ints .u64 x).toArray] w fun e w' => e = .returned (.agg (ints .u64 (redL x)).toArray) ∧ Below w.heap.size w w' := by
  have HX := Lib.hid hx
  have HB := Lib.hid (boxes2 w (ints .u64 x) (ints .u64 (List.replicate 5 0)) 61 61)
  have HIx := Lib.hid (lim_size hx.len)
  clear hx
  go_enter Try.func34, Try.ntmps34
  go_upto_region 1 with (fail)
  obtain ⟨H1, H2, HE⟩ := HB.out
  change Code.wp _ _ _ _ ((w.alloc (.cells (ints .u64 x).toArray 61)).alloc (.cells (ints .u64 (List.replicate 5 0)).toArray 61))
  generalize (w.alloc (.cells (ints .u64 x).toArray 61)).alloc (.cells (ints .u64 (List.replicate 5 0)).toArray 61) = wa at *
  obtain ⟨A, hA⟩ : ∃ A, A = w.heap.size := ⟨_, rfl⟩
  have HAW : Hid (w.heap.size ≤ A) := Lib.hid (by omega)
  rw [← hA] at H1 H2 ⊢
  have H1 := Lib.hid H1
  have H2 := Lib.hid H2
  have HE : Hid (Ext w wa) := Lib.hid HE
  clear hA HB
  go_wp2_with (refine wpList_load_blk rfl _ _ rfl A rfl _ _ _ _ H1.out Try.underlying61 HIx.out ?_)
  go_loopw [3, 7] (fun cv iv wr => ∃ (k : Nat), k ≤ 5 ∧ cv = .int .u64 (rRun x k) ∧ iv = .int .i64 (k : Int) ∧ Ext wa wr) (fun _ iv _ => 5 - (intOf iv).toNat)
  case atStart => exact ⟨0, by omega, rfl, rfl, Ext.refl _⟩
  case round =>
    obtain ⟨k, hk, rfl, rfl, hbel⟩ := hrel
    have k0 : (0 : Int) ≤ (k : Int) := Int.natCast_nonneg _
    have HX2 := Lib.hid hbel
    clear hbel
    by_cases hlk : k < 5
    · have k1 : (k : Int) < 5 := by omega
      have hi := index_ints (kd := .u64) Try.underlying61 Try.sizeOf59 Try.isAgg59 x HX.out.len k hlk
      have hxa := HX.out.getD (by omega) k
      have hra := rRun_range (M := 268435455) (by omega) (HX.out.getD (by omega)) k
      have HS : Hid (rRun x (k + 1) = (rRun x k + x.getD k 0) / 67108864) := Lib.hid rfl
      generalize x.getD k 0 = p at *
      generalize rRun x k = q at *
      obtain ⟨p0, p1⟩ := hxa
      obtain ⟨r0, r1⟩ := hra
      go_wp2_with fail
      go_roundw
      case rel => exact ⟨k + 1, by omega, by rw [HS.out], by go_num, HX2.out⟩
      case measure => simp [intOf]; omega
    · have hk5 : k = 5 := by omega
      subst hk5
      have H1 := Lib.hid (ext_blk H1.out HX2.out)
      have H2 := Lib.hid (ext_blk H2.out HX2.out)
      have HE := Lib.hid (HE.out.trans HX2.out)
      have q1 := digit_q H1.out (i := 0) (by rw [HX.out.len]; omega)
      have f1 := H1.out.free 0
      have hxa := HX.out.getD (by omega) 0
      have hra := rRun_range (M := 268435455) (by omega) (HX.out.getD (by omega)) 5
      have HR : Hid (redL x = setL (x.set 0 (x.getD 0 0 + 5 * rRun x 5))) := Lib.hid rfl
      have HL2 : Hid (Lim 1152921504606846976 (x.set 0 (x.getD 0 0 + 5 * rRun x 5))) := Lib.hid (by
        obtain ⟨a, b, c, d, e, rfl, h1, h2, h3, h4, h5⟩ := HX.out
        simp only [List.getD_cons_zero] at hxa hra ⊢
        exact ⟨_, b, c, d, e, rfl, by omega, by omega, by omega, by omega, by omega⟩)
      generalize x.getD 0 0 = p at *
      generalize rRun x 5 = q at *
      obtain ⟨p0, p1⟩ := hxa
      obtain ⟨r0, r1⟩ := hra
      go_upto_region 8 with (fail)
      have H1 : Hid (Blk (wr.setCell ⟨A, 0, none⟩ (.int .u64 (p + 5 * q))) A (ints .u64 (x.set 0 (p + 5 * q))) 61) := Lib.hid (H1.out.seti 0 _)
      have H2 := Lib.hid (H2.out.far (a := ⟨A, 0, none⟩) (by simp) (.int .u64 (p + 5 * q)))
      have HE : Hid (Ext w (wr.setCell ⟨A, 0, none⟩ (.int .u64 (p + 5 * q)))) := Lib.hid (Below.setCell HE.out (by have := HAW.out; simp; omega) _)
      generalize wr.setCell ⟨A, 0, none⟩ (.int .u64 (p + 5 * q)) = w3 at *
      clear q1 f1 HX2 HIx
      generalize x.set 0 (p + 5 * q) = y at *
      have HIy := Lib.hid (lim_size HL2.out.len)
      have HSY := Lib.hid (setL_len HL2.out.len)
      have HIo := Lib.hid (lim_size HSY.out)
      have HLz : Hid ((ints .u64 (setL y)).length = (ints .u64 (List.replicate 5 0)).length) := Lib.hid (by rw [ints_length, HSY.out]; rfl)
      go_wp2_with (refine wpList_load_blk rfl _ _ rfl A rfl _ _ _ _ H1.out Try.underlying61 HIy.out ?_)
      refine (psettled_any y w3 HL2.out).mono ?_
      rintro e w4 ⟨rfl, hb⟩
      have H2 := Lib.hid (ext_blk H2.out hb)
      have HE := Lib.hid (HE.out.trans hb)
      clear hb
      go_wp2_with (refine wpList_store_blk rfl _ _ _ rfl (A + 1) (ints .u64 (setL y)) rfl rfl _ _ H2.out HLz.out HIo.out (ints_one _ _) ?_; intro w5 hb5 hg5)
      refine bodyPost_ret (result_blk rfl _ (A + 1) _ _ _ _ rfl hb5 Try.underlying61 HIo.out) rfl ?_
      exact ⟨by rw [HR.out], ext_grown HE.out hg5 (by have := HAW.out; omega)⟩

theorem and8_15f : ∀ n : Fin 256, bits .and .u8 (n.val : Int) 15 = (n.val : Int) % 16 := by decide +kernel
theorem and8_252f : ∀ n : Fin 256, bits .and .u8 (n.val : Int) 252 = (n.val : Int) / 4 * 4 := by decide +kernel
theorem and8_15 (a : Int) (h1 : 0 ≤ a) (h2 : a ≤ 255) : bits .and .u8 a 15 = a % 16 := by
  obtain ⟨n, rfl⟩ : ∃ n : Nat, a = (n : Int) := ⟨a.toNat, by omega⟩
  exact and8_15f ⟨n, by omega⟩
theorem and8_252 (a : Int) (h1 : 0 ≤ a) (h2 : a ≤ 255) : bits .and .u8 a 252 = a / 4 * 4 := by
  obtain ⟨n, rfl⟩ : ∃ n : Nat, a = (n : Int) := ⟨a.toNat, by omega⟩
  exact and8_252f ⟨n, by omega⟩

set_option maxRecDepth 100000 in
set_option maxHeartbeats 8000000 in
theorem pclamped_any (kb : List UInt8) (w : World) :
    Calls Try.prog 30 #[.agg (ints .u8 (rA kb 16)).toArray] w fun e w' => e = .returned (.agg (ints .u8 (rC kb 3)).toArray) ∧ Below w.heap.size w w' := by
  have HB := Lib.hid (boxes2 w (ints .u8 (rA kb 16)) (ints .u8 (List.replicate 17 0)) 58 58)
  go_enter Try.func30, Try.ntmps30
  go_upto_region 1 with (fail)
  obtain ⟨H1, H2, HE⟩ := HB.out
  change Code.wp _ _ _ _ ((w.alloc (.cells (ints .u8 (rA kb 16)).toArray 58)).alloc (.cells (ints .u8 (List.replicate 17 0)).toArray 58))
  generalize (w.alloc (.cells (ints .u8 (rA kb 16)).toArray 58)).alloc (.cells (ints .u8 (List.replicate 17 0)).toArray 58) = wa at *
  obtain ⟨A, hA⟩ : ∃ A, A = w.heap.size := ⟨_, rfl⟩
  have HAW : Hid (w.heap.size ≤ A) := Lib.hid (by omega)
  rw [← hA] at H1 H2 ⊢
  have H1 : Hid (Blk wa A (ints .u8 (rB kb 0)) 58) := Lib.hid H1
  have H2 := Lib.hid H2
  have HE : Hid (Ext w wa) := Lib.hid HE
  clear hA HB
  go_wp2_with fail
  go_loopw [3] (fun iv wr => ∃ (k : Nat), k ≤ 4 ∧ iv = .int .i64 (3 + 4 * (k : Int)) ∧ Blk wr A (ints .u8 (rB kb k)) 58 ∧ Blk wr (A + 1) (ints .u8 (List.replicate 17 0)) 58 ∧ Ext w wr) (fun iv _ => 20 - (intOf iv).toNat)
  case atStart => exact ⟨0, by omega, rfl, H1.out, H2.out, HE.out⟩
  case round =>
    clear H1 H2 HE
    obtain ⟨k, hk, rfl, hb1, hb2, hbel⟩ := hrel
    have k0 : (0 : Int) ≤ (k : Int) := Int.natCast_nonneg _
    have H1 := Lib.hid hb1
    have H2 := Lib.hid hb2
    have HE := Lib.hid hbel
    by_cases hlk : k < 4
    · have k1 : 3 + 4 * (k : Int) < 16 := by omega
      have k2 : (0 : Int) ≤ 3 + 4 * (k : Int) := by omega
      have k3 : 3 + 4 * (k : Int) < 17 := by omega
      have kn : (3 + 4 * (k : Int)).toNat = 3 + 4 * k := by omega
      have c1 := digit_b hb1 (i := 3 + 4 * k) (by rw [rB_length]; omega)
      have f1 := hb1.free (3 + 4 * k)
      have hd := rB_digit kb k (3 + 4 * k) (by omega)
      have HS : Hid (rB kb (k + 1) = (rB kb k).set (3 + 4 * k) ((rB kb k).getD (3 + 4 * k) 0 % 16)) := Lib.hid rfl
      clear hb1 hb2 hbel
      generalize hz : (rB kb k).getD (3 + 4 * k) 0 = z at *
      clear hz
      obtain ⟨z0, z1⟩ := hd
      have a1 := and8_15 z z0 z1
      go_wp2_with fail
      go_roundw
      case rel => exact ⟨k + 1, by omega, by go_num, by rw [HS.out]; exact H1.out.seti _ _, H2.out.far (by simp) _, Below.setCell HE.out (by have := HAW.out; simp; omega) _⟩
      case measure => simp [intOf]; omega
    · have hk4 : k = 4 := by omega
      subst hk4
      rw [show ((4 : Nat) : Int) = 4 from rfl]
      rw [show (3 : Int) + 4 * 4 = 19 from rfl]
      clear hb1 hb2 hbel
      have H1 : Hid (Blk wr A (ints .u8 (rC kb 0)) 58) := Lib.hid H1.out
      go_wp2_with fail
      go_loopw [4] (fun iv wr => ∃ (k : Nat), k ≤ 3 ∧ iv = .int .i64 (4 + 4 * (k : Int)) ∧ Blk wr A (ints .u8 (rC kb k)) 58 ∧ Blk wr (A + 1) (ints .u8 (List.replicate 17 0)) 58 ∧ Ext w wr) (fun iv _ => 20 - (intOf iv).toNat)
      case atStart => exact ⟨0, by omega, rfl, H1.out, H2.out, HE.out⟩
      case round =>
        clear H1 H2 HE
        obtain ⟨k, hk, rfl, hb1, hb2, hbel⟩ := hrel
        have k0 : (0 : Int) ≤ (k : Int) := Int.natCast_nonneg _
        have H1 := Lib.hid hb1
        have H2 := Lib.hid hb2
        have HE := Lib.hid hbel
        by_cases hlk : k < 3
        · have k1 : 4 + 4 * (k : Int) < 16 := by omega
          have k2 : (0 : Int) ≤ 4 + 4 * (k : Int) := by omega
          have k3 : 4 + 4 * (k : Int) < 17 := by omega
          have kn : (4 + 4 * (k : Int)).toNat = 4 + 4 * k := by omega
          have c1 := digit_b hb1 (i := 4 + 4 * k) (by rw [rC_length]; omega)
          have f1 := hb1.free (4 + 4 * k)
          have hd := rC_digit kb k (4 + 4 * k) (by omega)
          have HS : Hid (rC kb (k + 1) = (rC kb k).set (4 + 4 * k) ((rC kb k).getD (4 + 4 * k) 0 / 4 * 4)) := Lib.hid rfl
          clear hb1 hb2 hbel
          generalize hz : (rC kb k).getD (4 + 4 * k) 0 = z at *
          clear hz
          obtain ⟨z0, z1⟩ := hd
          have a1 := and8_252 z z0 z1
          go_wp2_with fail
          go_roundw
          case rel => exact ⟨k + 1, by omega, by go_num, by rw [HS.out]; exact H1.out.seti _ _, H2.out.far (by simp) _, Below.setCell HE.out (by have := HAW.out; simp; omega) _⟩
          case measure => simp [intOf]; omega
        · have hk3 : k = 3 := by omega
          subst hk3
          rw [show ((3 : Nat) : Int) = 3 from rfl]
          rw [show (4 : Int) + 4 * 3 = 16 from rfl]
          clear hb1 hb2 hbel hk k0 hlk
          obtain ⟨s, hs⟩ : ∃ s, s = rC kb 3 := ⟨_, rfl⟩
          have HR := Lib.hid hs
          rw [← hs] at H1
          have HL : Hid (s.length = 17) := Lib.hid (by rw [hs, rC_length])
          clear hs
          have HI : Hid ((Try.prog.info? 58).map (·.size) = some (ints .u8 s).length) := Lib.hid (blk_size17 HL.out)
          have HLz : Hid ((ints .u8 s).length = (ints .u8 (List.replicate 17 0)).length) := Lib.hid (by rw [ints_length, HL.out]; rfl)
          go_wp2_with (first | (refine wpList_load_blk rfl _ _ rfl A rfl _ _ _ _ H1.out Try.underlying58 HI.out ?_) | (refine wpList_store_blk rfl _ _ _ rfl (A + 1) (ints .u8 s) rfl rfl _ _ H2.out HLz.out HI.out (ints_one _ _) ?_; intro w5 hb5 hg5))
          refine bodyPost_ret (result_blk rfl _ (A + 1) _ _ _ _ rfl hb5 Try.underlying58 HI.out) rfl ?_
          exact ⟨by rw [HR.out], ext_grown HE.out hg5 (by have := HAW.out; omega)⟩

end Go.Proofs.Ytflefkmpllbeeaa

/- The walk of package poly's blockOf. Each theorem names its own conditions. -/
namespace Go.Proofs.Ytflefkmpllbeeaa
open Go.RowKit
set_option linter.unusedVariables false
set_option linter.unusedSimpArgs false

theorem pow_up {s : Nat} (h : s ≤ 6) : (1 : Int) ≤ 2 ^ s ∧ (2 : Int) ^ s ≤ 64 := by
  match s, h with
  | 0, _ => decide
  | 1, _ => decide
  | 2, _ => decide
  | 3, _ => decide
  | 4, _ => decide
  | 5, _ => decide
  | 6, _ => decide

set_option maxRecDepth 100000 in
set_option maxHeartbeats 8000000 in
theorem pblock_any (x : List Int) (w : World) (hx : Lim 67108863 x) :
    Calls Try.prog 31 #[.agg (ints .u64 x).toArray] w fun e w' => e = .returned (.agg (ints .u8 (blkL x)).toArray) ∧ Below w.heap.size w w' := by
  have HX := Lib.hid hx
  have HB := Lib.hid (boxes3 w (ints .u64 x) (ints .u8 (List.replicate 17 0)) (ints .u8 (List.replicate 17 0)) 61 58 58)
  have HIx := Lib.hid (lim_size hx.len)
  clear hx
  go_enter Try.func31, Try.ntmps31
  go_upto_region 2 with (fail)
  obtain ⟨H1, H2, H3, HE⟩ := HB.out
  change Code.wp _ _ _ _ (((w.alloc (.cells (ints .u64 x).toArray 61)).alloc (.cells (ints .u8 (List.replicate 17 0)).toArray 58)).alloc (.cells (ints .u8 (List.replicate 17 0)).toArray 58))
  generalize ((w.alloc (.cells (ints .u64 x).toArray 61)).alloc (.cells (ints .u8 (List.replicate 17 0)).toArray 58)).alloc (.cells (ints .u8 (List.replicate 17 0)).toArray 58) = wa at *
  obtain ⟨A, hA⟩ : ∃ A, A = w.heap.size := ⟨_, rfl⟩
  have HAW : Hid (w.heap.size ≤ A) := Lib.hid (by omega)
  rw [← hA] at H1 H2 H3 ⊢
  have H1 := Lib.hid H1
  have H2 := Lib.hid H2
  have H3 : Hid (Blk wa (A + 1 + 1) (ints .u8 (oI x 0)) 58) := Lib.hid H3
  have HE : Hid (Ext w wa) := Lib.hid HE
  clear hA HB
  go_wp2_with (refine wpList_load_blk rfl _ _ rfl A rfl _ _ _ _ H1.out Try.underlying61 HIx.out ?_)
  go_loopw [9] (fun iv wr => ∃ (i : Nat), i ≤ 5 ∧ iv = .int .i64 (i : Int) ∧ Blk wr (A + 1) (ints .u8 (List.replicate 17 0)) 58 ∧ Blk wr (A + 1 + 1) (ints .u8 (oI x i)) 58 ∧ Ext w wr) (fun iv _ => 5 - (intOf iv).toNat)
  case atStart => exact ⟨0, by omega, rfl, H2.out, H3.out, HE.out⟩
  case round =>
    clear H1 H2 H3 HE HIx
    obtain ⟨i, hi, rfl, hb2, hb3, hbel⟩ := hrel
    have i0 : (0 : Int) ≤ (i : Int) := Int.natCast_nonneg _
    have H2 := Lib.hid hb2
    have H3 := Lib.hid hb3
    have HE := Lib.hid hbel
    clear hb2 hb3 hbel
    by_cases hli : i < 5
    · have i1 : (i : Int) < 5 := by omega
      have hxi := index_ints (kd := .u64) Try.underlying61 Try.sizeOf59 Try.isAgg59 x HX.out.len i hli
      obtain ⟨z0, z1⟩ := HX.out.getD (by omega) i
      obtain ⟨q, hq⟩ : ∃ q, q = 26 * i / 8 := ⟨_, rfl⟩
      obtain ⟨s, hs⟩ : ∃ s, s = 26 * i % 8 := ⟨_, rfl⟩
      have hs6 : s ≤ 6 := by omega
      have hq13 : q ≤ 13 := by omega
      have d1 : 26 * (i : Int) / 8 = (q : Int) := by omega
      have d2 : Int.tdiv (26 * (i : Int)) 8 = (q : Int) := by rw [Int.tdiv_eq_ediv_of_nonneg (by omega)]; exact d1
      have s1 : 26 * (i : Int) % 8 = (s : Int) := by omega
      have s2 : Int.tmod (26 * (i : Int)) 8 = (s : Int) := by rw [Int.tmod_eq_emod_of_nonneg (by omega)]; exact s1
      have s3 : (s : Int) < 64 := by omega
      have s4 : (0 : Int) ≤ (s : Int) := by omega
      have HS : Hid (oI x (i + 1) = oN (oI x i) (x.getD i 0) q s 4) := Lib.hid (by rw [oI, hq, hs])
      have HL := Lib.hid (oI_length x i)
      have H3 : Hid (Blk wr (A + 1 + 1) (ints .u8 (oN (oI x i) (x.getD i 0) q s 0)) 58) := Lib.hid H3.out
      clear hq hs
      generalize x.getD i 0 = z at *
      generalize oI x i = c at *
      go_wp2_with fail
      go_loopw [15] (fun nv wq => ∃ (n : Nat), n ≤ 4 ∧ nv = .int .i64 (n : Int) ∧ Blk wq (A + 1) (ints .u8 (List.replicate 17 0)) 58 ∧ Blk wq (A + 1 + 1) (ints .u8 (oN c z q s n)) 58 ∧ Ext w wq) (fun nv _ => 4 - (intOf nv).toNat)
      case atStart => exact ⟨0, by omega, rfl, H2.out, H3.out, HE.out⟩
      case round =>
        clear H2 H3 HE
        obtain ⟨n, hn, rfl, hb2, hb3, hbel⟩ := hrel
        have n0 : (0 : Int) ≤ (n : Int) := Int.natCast_nonneg _
        have H2 := Lib.hid hb2
        have H3 := Lib.hid hb3
        have HE := Lib.hid hbel
        by_cases hln : n < 4
        · have n1 : (n : Int) < 4 := by omega
          obtain ⟨j, hj⟩ : ∃ j, j = q + n := ⟨_, rfl⟩
          have j1 : (q : Int) + (n : Int) = (j : Int) := by omega
          have j2 : (j : Int) < 17 := by omega
          have j3 : (0 : Int) ≤ (j : Int) := by omega
          obtain ⟨e, he⟩ : ∃ e, e = 8 * n := ⟨_, rfl⟩
          have e1 : 8 * (n : Int) = (e : Int) := by omega
          have e2 : (e : Int) < 64 := by omega
          have e3 : (0 : Int) ≤ (e : Int) := by omega
          have q3 := digit_b hb3 (i := j) (by rw [oN_length, HL.out]; omega)
          have f3 := hb3.free j
          have hp := pow_up hs6
          have hpz : 0 ≤ z * 2 ^ s ∧ z * 2 ^ s ≤ 4294967232 := by
            have := mulB (X := 67108863) (Y := 64) ⟨z0, z1⟩ ⟨by omega, hp.2⟩
            omega
          have hdv : 0 ≤ z * 2 ^ s / 2 ^ e ∧ z * 2 ^ s / 2 ^ e ≤ 4294967295 := by
            have hp : (0 : Int) < 2 ^ e := Int.pow_pos (by omega)
            exact ⟨Int.ediv_nonneg hpz.1 (by omega), Int.le_trans (Int.ediv_le_self _ hpz.1) (by omega)⟩
          have HK : Hid (oN c z q s (n + 1) = (oN c z q s n).set j (bits .or .u8 ((oN c z q s n).getD j 0) (z * 2 ^ s / 2 ^ e % 256))) := Lib.hid (by rw [oN, ← hj, ← he])
          clear hb2 hb3 hbel hj he hp
          generalize (oN c z q s n).getD j 0 = y at *
          obtain ⟨p0, p1⟩ := hpz
          obtain ⟨r0, r1⟩ := hdv
          go_wp2_with fail
          go_region
          go_wp2_with fail
          go_roundw
          case rel => exact ⟨n + 1, by omega, by go_num, (H2.out.far (by simp) _).drewN 1, by rw [HK.out]; exact (H3.out.seti j _).drewN 1, Ext.trans (Below.setCell HE.out (by have := HAW.out; simp; omega) _) (Ext.drew _)⟩
          case measure => simp [intOf]; omega
        · have hn4 : n = 4 := by omega
          subst hn4
          rw [show ((4 : Nat) : Int) = 4 from rfl]
          clear hb2 hb3 hbel
          go_wp2_with fail
          go_roundw
          case rel => exact ⟨i + 1, by omega, by go_num, H2.out, by rw [HS.out]; exact H3.out, HE.out⟩
          case measure => simp [intOf]; omega
    · have hi5 : i = 5 := by omega
      subst hi5
      have HL : Hid ((oI x 5).length = 17) := Lib.hid (oI_length x 5)
      have HR : Hid (blkL x = oI x 5) := Lib.hid rfl
      generalize oI x 5 = s at *
      have HI : Hid ((Try.prog.info? 58).map (·.size) = some (ints .u8 s).length) := Lib.hid (blk_size17 HL.out)
      have HLz : Hid ((ints .u8 s).length = (ints .u8 (List.replicate 17 0)).length) := Lib.hid (by rw [ints_length, HL.out]; rfl)
      go_wp2_with (first | (refine wpList_load_blk rfl _ _ rfl (A + 1 + 1) rfl _ _ _ _ H3.out Try.underlying58 HI.out ?_) | (refine wpList_store_blk rfl _ _ _ rfl (A + 1) (ints .u8 s) rfl rfl _ _ H2.out HLz.out HI.out (ints_one _ _) ?_; intro w5 hb5 hg5))
      refine bodyPost_ret (result_blk rfl _ (A + 1) _ _ _ _ rfl hb5 Try.underlying58 HI.out) rfl ?_
      exact ⟨by rw [HR.out], ext_grown HE.out hg5 (by have := HAW.out; omega)⟩

end Go.Proofs.Ytflefkmpllbeeaa

/- The walk of package poly's Sum. Each theorem names its own conditions. -/
namespace Go.Proofs.Ytflefkmpllbeeaa
open Go.RowKit
set_option linter.unusedVariables false
set_option linter.unusedSimpArgs false

theorem Try.ptag43 : (Try.prog.info? 43).map (·.size) = some 16 := by kernel_rfl
theorem ptag_size {l : List UInt8} (h : l.length = 16) : (Try.prog.info? 43).map (·.size) = some (l.map bval).length := by rw [List.length_map, h]; exact Try.ptag43
theorem rA_iB (kb : List UInt8) (hk : kb.length = 32) : iB (kb.take 16 ++ [0]) = rA kb 16 := by
  apply ext_getD (by rw [iB_length, rA_length, List.length_append, List.length_take, hk]; rfl)
  intro i hi
  rw [iB_getD, rA_getD kb 16 (by omega) i]
  by_cases h : i < 16
  · rw [if_pos h]
    simp [List.getD, List.getElem?_append_left (show i < (kb.take 16).length by rw [List.length_take]; omega), List.getElem?_take, h]
  · rw [if_neg h]
    rw [iB_length, List.length_append, List.length_take, hk] at hi
    have e : i = 16 := by simp at hi; omega
    subst e
    simp [List.getD, hk]
/-- The key's halves, laid over a block. -/
theorem half_laid (c : List UInt8) (hc : c.length = 16) : splice ((List.replicate 17 (0 : UInt8)).map bval) 0 (c.map bval) = (c ++ [0]).map bval := by
  rw [splice_bytes, hc]
  simp
theorem tag_laid (c : List UInt8) (hc : c.length = 16) : splice ((List.replicate 16 (0 : UInt8)).map bval) 0 (c.map bval) = c.map bval := by
  rw [splice_bytes, hc]
  simp

set_option maxRecDepth 100000 in
set_option maxHeartbeats 8000000 in
theorem PSum_num (kb : List UInt8) (v : Value) (ls : List (List UInt8)) (w : World) (hk : kb.length = 32) (hv : RowB w v ls) (hm : ls.flatten.length ≤ 1099511627776) :
    Calls Try.prog 16 #[.agg (kb.map bval).toArray, v] w fun e w' => e = .returned (.agg ((polyTag kb ls.flatten).map bval).toArray) ∧ Below w.heap.size w w' := by
  obtain ⟨a, cap, rfl⟩ := rowB_any hv
  have HKL := Lib.hid hk
  have HRB := Lib.hid hv
  have HM := Lib.hid hm
  have HB := Lib.hid (boxes4 w (kb.map bval) (ints .u8 (List.replicate 16 0)) (ints .u8 (List.replicate 17 0)) (ints .u8 (List.replicate 17 0)) 23 43 58 58)
  clear hk hv hm
  go_enter Try.func16, Try.ntmps16
  go_upto_region 2 with (fail)
  obtain ⟨H1, H2, H3, H4, HE⟩ := HB.out
  change Code.wp _ _ _ _ ((((w.alloc (.cells (kb.map bval).toArray 23)).alloc (.cells (ints .u8 (List.replicate 16 0)).toArray 43)).alloc (.cells (ints .u8 (List.replicate 17 0)).toArray 58)).alloc (.cells (ints .u8 (List.replicate 17 0)).toArray 58))
  generalize (((w.alloc (.cells (kb.map bval).toArray 23)).alloc (.cells (ints .u8 (List.replicate 16 0)).toArray 43)).alloc (.cells (ints .u8 (List.replicate 17 0)).toArray 58)).alloc (.cells (ints .u8 (List.replicate 17 0)).toArray 58) = wa at *
  obtain ⟨A, hA⟩ : ∃ A, A = w.heap.size := ⟨_, rfl⟩
  have HAW : Hid (w.heap.size ≤ A) := Lib.hid (by omega)
  rw [← hA] at H1 H2 H3 H4 ⊢
  have H1 := Lib.hid H1
  have H2 := Lib.hid H2
  have H3 : Hid (Blk wa (A + 1 + 1) ((List.replicate 17 (0 : UInt8)).map bval) 58) := Lib.hid H3
  have H4 : Hid (Blk wa (A + 1 + 1 + 1) ((List.replicate 17 (0 : UInt8)).map bval) 58) := Lib.hid H4
  have HE : Hid (Ext w wa) := Lib.hid HE
  clear hA HB
  refine wp_region_from 2 1 2 rfl (by kernel_rfl) (by kernel_rfl) (fun d v c a w h => by cases d <;> exact h) (by kernel_rfl) ?_
  refine det_val (.slice (some ⟨A + 1 + 1, 0, none⟩) 16 17) (by rfl) (fun w hw => by go_simp) ?_
  simp only [Act.put, List.setIfInBounds_toArray, List.set_cons_zero, List.set_cons_succ]
  refine det_val (.slice (some ⟨A, 0, none⟩) 16 32) (by rfl) (fun w hw => by go_simp) ?_
  simp only [Act.put, List.setIfInBounds_toArray, List.set_cons_zero, List.set_cons_succ]
  refine det_nil (end_store (k := 2) rfl (by kernel_rfl) (by kernel_rfl) (by kernel_rfl) rfl (fun w1 hw1 => ?_))
  have H1 := Lib.hid (ext_blk H1.out hw1)
  have H2 := Lib.hid (ext_blk H2.out hw1)
  have H3 := Lib.hid (ext_blk H3.out hw1)
  have H4 := Lib.hid (ext_blk H4.out hw1)
  have HE := Lib.hid (HE.out.trans hw1)
  clear hw1
  refine wp_copy_blk _ _ 26 26 rfl 5 Try.underlying26 num_one _ _ _ _ _ _ rfl rfl (A + 1 + 1) 0 _ _ H3.out ((kb.take 16).map bval) (by rw [List.length_map, List.length_take, HKL.out]; rfl) (fun _ => ⟨rfl, ⟨A, 0, none⟩, rfl, fun j v hj => ?_⟩) (by simp [HKL.out]) (bval_one _) ?_
  · have hj2 : j < 16 := by
      rcases Nat.lt_or_ge j 16 with h | h
      · exact h
      · rw [List.getElem?_eq_none (by rw [List.length_map, List.length_take]; omega)] at hj; cases hj
    rw [WideShapes.add_plain, Nat.zero_add, H1.out.cell, ← hj, List.getElem?_map, List.getElem?_map, List.getElem?_take, if_pos hj2]
  intro w2 hb2 hg2
  rw [half_laid _ (by rw [List.length_take, HKL.out]; rfl)] at hb2
  have H1 := Lib.hid (H1.out.grown hg2 (by simp; omega))
  have H2 := Lib.hid (H2.out.grown hg2 (by simp))
  have H4 := Lib.hid (H4.out.grown hg2 (by simp))
  have HE := Lib.hid (ext_grown HE.out hg2 (by have := HAW.out; omega))
  have H3 := Lib.hid hb2
  clear hb2 hg2
  generalize goInt ((kb.take 16).map bval).length = g1
  simp only [Act.put, List.getElem_toArray, List.getElem_cons_zero, List.getElem_cons_succ, List.setIfInBounds_toArray, List.set_cons_zero, List.set_cons_succ]
  go_upto_region 3 with (fail)
  refine wp_region_from 2 1 2 rfl (by kernel_rfl) (by kernel_rfl) (fun d v c a w h => by cases d <;> exact h) (by kernel_rfl) ?_
  refine det_val (.slice (some ⟨A + 1 + 1 + 1, 0, none⟩) 16 17) (by rfl) (fun w hw => by go_simp) ?_
  simp only [Act.put, List.setIfInBounds_toArray, List.set_cons_zero, List.set_cons_succ]
  refine det_val (.slice (some ⟨A, 16, none⟩) 16 16) (by rfl) (fun w hw => by go_simp) ?_
  simp only [Act.put, List.setIfInBounds_toArray, List.set_cons_zero, List.set_cons_succ]
  refine det_nil (end_store (k := 2) rfl (by kernel_rfl) (by kernel_rfl) (by kernel_rfl) rfl (fun w3 hw3 => ?_))
  have H1 := Lib.hid (ext_blk H1.out hw3)
  have H2 := Lib.hid (ext_blk H2.out hw3)
  have H3 := Lib.hid (ext_blk H3.out hw3)
  have H4 := Lib.hid (ext_blk H4.out hw3)
  have HE := Lib.hid (HE.out.trans hw3)
  clear hw3
  have HSL : Hid (((kb.drop 16).take 16).length = 16) := Lib.hid (by rw [List.length_take, List.length_drop, HKL.out]; rfl)
  refine wp_copy_blk _ _ 26 26 rfl 5 Try.underlying26 num_one _ _ _ _ _ _ rfl rfl (A + 1 + 1 + 1) 0 _ _ H4.out (((kb.drop 16).take 16).map bval) (by rw [List.length_map, HSL.out]; rfl) (fun _ => ⟨rfl, ⟨A, 16, none⟩, rfl, fun j v hj => ?_⟩) (by rw [List.length_map, HSL.out]; simp) (bval_one _) ?_
  · have hj2 : j < 16 := by
      rcases Nat.lt_or_ge j 16 with h | h
      · exact h
      · rw [List.getElem?_eq_none (by rw [List.length_map, HSL.out]; omega)] at hj; cases hj
    rw [WideShapes.add_plain, H1.out.cell, ← hj, List.getElem?_map, List.getElem?_map, List.getElem?_take, if_pos hj2, List.getElem?_drop]
  intro w4 hb4 hg4
  rw [half_laid _ HSL.out, bval_ints] at hb4
  have H2 := Lib.hid (H2.out.grown hg4 (by simp; omega))
  have H3 := Lib.hid (H3.out.grown hg4 (by simp))
  have HE := Lib.hid (ext_grown HE.out hg4 (by have := HAW.out; omega))
  have H4 := Lib.hid hb4
  clear hb4 hg4 H1
  rw [bval_ints, rA_iB kb HKL.out] at H3
  generalize goInt (((kb.drop 16).take 16).map bval).length = g2
  simp only [Act.put, List.getElem_toArray, List.getElem_cons_zero, List.getElem_cons_succ, List.setIfInBounds_toArray, List.set_cons_zero, List.set_cons_succ]
  -- the fold
  obtain ⟨m, hm⟩ : ∃ m, m = ls.flatten := ⟨_, rfl⟩
  have HM := HM.out
  rw [← hm] at HM
  have hrl := rL_val kb
  have hfv := fL_val kb m ((m.length + 15) / 16)
  have hsv := sL_val HKL.out
  obtain ⟨o17, ho1, ho2, ho3⟩ := tag_bytes (key := kb) (m := m) HKL.out
  have hov := outL_val (key := kb) (m := m) HKL.out
  have hrv := redL_val hfv.1.lim.len (fun i => (hfv.1.lim.getD (by omega) i).1) hfv.1.below
  have hav := addL_val hrv.1 hsv.1
  have HFO := Lib.hid (fun w' (h : Ext w w') => pfolded_any (.slice a ls.length cap) ls (rL kb) w w' HRB.out h hrl.1 (by rw [← hm]; exact HM))
  rw [← hm] at HFO
  obtain ⟨R, hR⟩ : ∃ R, R = rL kb := ⟨_, rfl⟩
  obtain ⟨F, hF⟩ : ∃ F, F = fL R m ((m.length + 15) / 16) := ⟨_, rfl⟩
  obtain ⟨D, hD⟩ : ∃ D, D = redL F := ⟨_, rfl⟩
  obtain ⟨S, hS⟩ : ∃ S, S = sL kb := ⟨_, rfl⟩
  obtain ⟨P, hP⟩ : ∃ P, P = addL D S := ⟨_, rfl⟩
  obtain ⟨O, hO⟩ : ∃ O, O = setL P := ⟨_, rfl⟩
  have HOO : Hid (O = outL kb m) := Lib.hid (by rw [hO, hP, hD, hS, hF, hR]; rfl)
  rw [← hR, ← hF] at hfv hrv hav HFO
  rw [← hR] at hrl
  rw [← hD] at hrv hav
  rw [← hS] at hsv hav
  rw [← hP] at hav
  rw [← HOO.out] at hov ho2
  have C1 : Hid (∀ w, Calls Try.prog 30 #[.agg (ints .u8 (rA kb 16)).toArray] w fun e w' => e = .returned (.agg (ints .u8 (rC kb 3)).toArray) ∧ Below w.heap.size w w') := Lib.hid (pclamped_any kb)
  have C2 : Hid (∀ w, Calls Try.prog 29 #[.agg (ints .u8 (rC kb 3)).toArray] w fun e w' => e = .returned (.agg (ints .u64 R).toArray) ∧ Below w.heap.size w w') := Lib.hid (fun w => by rw [hR]; exact plimbs_any _ w (D17_rC kb))
  have C3 : Hid (∀ w, Calls Try.prog 34 #[.agg (ints .u64 F).toArray] w fun e w' => e = .returned (.agg (ints .u64 D).toArray) ∧ Below w.heap.size w w') := Lib.hid (fun w => by rw [hD]; exact preduced_any _ w (hfv.1.lim.up (by omega)))
  have hq17 : ((kb.drop 16).take 16 ++ [0]).length = 17 := by rw [List.length_append, HSL.out]; rfl
  have C4 : Hid (∀ w, Calls Try.prog 29 #[.agg (ints .u8 (iB ((kb.drop 16).take 16 ++ [0]))).toArray] w fun e w' => e = .returned (.agg (ints .u64 S).toArray) ∧ Below w.heap.size w w') := Lib.hid (fun w => by rw [hS]; exact plimbs_any _ w (D17_iB hq17))
  have C5 : Hid (∀ w, Calls Try.prog 33 #[.agg (ints .u64 D).toArray, .agg (ints .u64 S).toArray] w fun e w' => e = .returned (.agg (ints .u64 P).toArray) ∧ Below w.heap.size w w') := Lib.hid (fun w => by rw [hP]; exact pplus_any _ _ w (hrv.1.up (by omega)) (hsv.1.up (by omega)))
  have C6 : Hid (∀ w, Calls Try.prog 32 #[.agg (ints .u64 P).toArray] w fun e w' => e = .returned (.agg (ints .u64 O).toArray) ∧ Below w.heap.size w w') := Lib.hid (fun w => by rw [hO]; exact psettled_any _ w (hav.1.up (by omega)))
  have C7 : Hid (∀ w, Calls Try.prog 31 #[.agg (ints .u64 O).toArray] w fun e w' => e = .returned (.agg (ints .u8 (iB o17)).toArray) ∧ Below w.heap.size w w') := Lib.hid (fun w => by rw [← ho2]; exact pblock_any _ w hov.1)
  have HIF := Lib.hid (lim_size hfv.1.lim.len)
  have HLF : Hid ((ints .u64 F).length = (ints .u64 (List.replicate 5 0)).length) := Lib.hid (by rw [ints_length, hfv.1.lim.len]; rfl)
  have HIr := Lib.hid (blk_size17 (rA_length kb 16))
  have HIq := Lib.hid (blk_size17 (l := iB ((kb.drop 16).take 16 ++ [0])) (by rw [iB_length, hq17]))
  have HIo := Lib.hid (blk_size17 (l := iB o17) (by rw [iB_length, ho1]))
  have HLo : Hid ((ints .u8 (iB o17)).length = (ints .u8 (List.replicate 17 0)).length) := Lib.hid (by rw [ints_length, iB_length, ho1]; rfl)
  have HO1 := Lib.hid ho1
  have HO3 := Lib.hid ho3
  have HMM := Lib.hid hm
  clear hrl hfv hsv ho1 ho2 ho3 hov hrv hav hR hF hD hS hP hO hq17 HOO hm HM
  generalize rA kb 16 = ra at *
  generalize rC kb 3 = rc at *
  generalize iB ((kb.drop 16).take 16 ++ [0]) = sq at *
  obtain ⟨oi, hoi⟩ : ∃ oi, oi = iB o17 := ⟨_, rfl⟩
  rw [← hoi] at C7 HIo HLo
  have HOI := Lib.hid hoi
  clear hoi
  go_upto_region 4 with (fail)
  refine wp_region_from 6 2 7 rfl (by kernel_rfl) (by kernel_rfl) (fun d v c a w h => by cases d <;> exact h) (by kernel_rfl) ?_
  refine det_move _ (.slice a ls.length cap) (by rfl) rfl rfl ?_
  simp only [Act.put, List.setIfInBounds_toArray, List.set_cons_zero, List.set_cons_succ]
  refine det_call _ _ _ [.slice a ls.length cap] (.agg #[.slice none 0 0, .slice a ls.length cap]) (by rfl) rfl Try.call28 rfl (fun w hw => of_any a ls.length cap w) ?_
  simp only [Act.put, List.setIfInBounds_toArray, List.set_cons_zero, List.set_cons_succ]
  refine det_load _ _ (A + 1 + 1) (ints .u8 ra) _ (by rfl) rfl rfl (fun w hw => ext_range H3.out hw) Try.underlying58 rfl HIr.out ?_
  simp only [Act.put, List.setIfInBounds_toArray, List.set_cons_zero, List.set_cons_succ]
  refine det_call _ _ _ [.agg (ints .u8 ra).toArray] (.agg (ints .u8 rc).toArray) (by rfl) rfl Try.call30 rfl (fun w hw => C1.out w) ?_
  simp only [Act.put, List.setIfInBounds_toArray, List.set_cons_zero, List.set_cons_succ]
  refine det_call _ _ _ [.agg (ints .u8 rc).toArray] (.agg (ints .u64 R).toArray) (by rfl) rfl Try.call29 rfl (fun w hw => C2.out w) ?_
  simp only [Act.put, List.setIfInBounds_toArray, List.set_cons_zero, List.set_cons_succ]
  refine det_call _ _ _ [.agg #[.slice none 0 0, .slice a ls.length cap], .agg (ints .u64 R).toArray] (.agg (ints .u64 F).toArray) (by rfl) rfl Try.call27 rfl (fun w hw => HFO.out w (HE.out.trans hw)) ?_
  simp only [Act.put, List.setIfInBounds_toArray, List.set_cons_zero, List.set_cons_succ]
  refine det_nil (end_var (k := 6) _ 7 (.tmp 21) (ints .u64 (List.replicate 5 0)) (ints .u64 F) rfl rfl (by kernel_rfl) (by kernel_rfl) (by kernel_rfl) (by kernel_rfl) (by kernel_rfl) rfl rfl rfl rfl Try.zeroValue61 rfl (by simp) (fun p => rfl) HLF.out HIF.out (ints_one _ _) (fun p5 w5 hp5 hb5 he5 => ?_))
  simp only [Act.put, List.getElem_toArray, List.getElem_cons_zero, List.getElem_cons_succ, List.setIfInBounds_toArray, List.set_cons_zero, List.set_cons_succ]
  have H2 := Lib.hid (ext_blk H2.out he5)
  have H4 := Lib.hid (ext_blk H4.out he5)
  have HE := Lib.hid (HE.out.trans he5)
  have H5 := Lib.hid hb5
  clear hb5 he5 hp5 H3
  go_upto_region 5 with (fail)
  refine wp_region_from 7 2 8 rfl (by kernel_rfl) (by kernel_rfl) (fun d v c a w h => by cases d <;> exact h) (by kernel_rfl) ?_
  refine det_load _ _ p5 (ints .u64 F) _ (by rfl) rfl rfl (fun w hw => ext_range H5.out hw) Try.underlying61 rfl HIF.out ?_
  simp only [Act.put, List.setIfInBounds_toArray, List.set_cons_zero, List.set_cons_succ]
  refine det_call _ _ _ [.agg (ints .u64 F).toArray] (.agg (ints .u64 D).toArray) (by rfl) rfl Try.call34 rfl (fun w hw => C3.out w) ?_
  simp only [Act.put, List.setIfInBounds_toArray, List.set_cons_zero, List.set_cons_succ]
  refine det_load _ _ (A + 1 + 1 + 1) (ints .u8 sq) _ (by rfl) rfl rfl (fun w hw => ext_range H4.out hw) Try.underlying58 rfl HIq.out ?_
  simp only [Act.put, List.setIfInBounds_toArray, List.set_cons_zero, List.set_cons_succ]
  refine det_call _ _ _ [.agg (ints .u8 sq).toArray] (.agg (ints .u64 S).toArray) (by rfl) rfl Try.call29 rfl (fun w hw => C4.out w) ?_
  simp only [Act.put, List.setIfInBounds_toArray, List.set_cons_zero, List.set_cons_succ]
  refine det_call _ _ _ [.agg (ints .u64 D).toArray, .agg (ints .u64 S).toArray] (.agg (ints .u64 P).toArray) (by rfl) rfl Try.call33 rfl (fun w hw => C5.out w) ?_
  simp only [Act.put, List.setIfInBounds_toArray, List.set_cons_zero, List.set_cons_succ]
  refine det_call _ _ _ [.agg (ints .u64 P).toArray] (.agg (ints .u64 O).toArray) (by rfl) rfl Try.call32 rfl (fun w hw => C6.out w) ?_
  simp only [Act.put, List.setIfInBounds_toArray, List.set_cons_zero, List.set_cons_succ]
  refine det_call _ _ _ [.agg (ints .u64 O).toArray] (.agg (ints .u8 oi).toArray) (by rfl) rfl Try.call31 rfl (fun w hw => C7.out w) ?_
  simp only [Act.put, List.setIfInBounds_toArray, List.set_cons_zero, List.set_cons_succ]
  refine det_nil (end_var (k := 7) _ 8 (.tmp 28) (ints .u8 (List.replicate 17 0)) (ints .u8 oi) rfl rfl (by kernel_rfl) (by kernel_rfl) (by kernel_rfl) (by kernel_rfl) (by kernel_rfl) rfl rfl rfl rfl Try.zeroValue58 rfl (by simp) (fun p => rfl) HLo.out HIo.out (ints_one _ _) (fun p6 w6 hp6 hb6 he6 => ?_))
  simp only [Act.put, List.getElem_toArray, List.getElem_cons_zero, List.getElem_cons_succ, List.setIfInBounds_toArray, List.set_cons_zero, List.set_cons_succ]
  have H2 := Lib.hid (ext_blk H2.out he6)
  have HE := Lib.hid (HE.out.trans he6)
  rw [HOI.out, ← bval_ints] at hb6
  have H6 := Lib.hid hb6
  clear hb6 he6 hp6 H4 H5
  have HXA := Ext.alloc w6 (.cells (ints .u8 (List.replicate 16 0)).toArray 43)
  obtain ⟨T, hT⟩ : ∃ T, T = w6.heap.size := ⟨_, rfl⟩
  have HTA : Hid (A + 1 < T ∧ p6 < T) := Lib.hid (by have := H2.out.lt; have := H6.out.lt; omega)
  have H7 : Hid (Blk (w6.alloc (.cells (ints .u8 (List.replicate 16 0)).toArray 43)) T ((List.replicate 16 (0 : UInt8)).map bval) 43) := Lib.hid (by rw [hT]; exact Blk.made w6 (ints .u8 (List.replicate 16 0)) 43)
  have H2 := Lib.hid (ext_blk H2.out HXA)
  have H6 := Lib.hid (ext_blk H6.out HXA)
  have HE := Lib.hid (HE.out.trans HXA)
  clear HXA
  go_upto_region 7 with (fail)
  change Code.wp _ _ _ _ (w6.alloc (.cells (ints .u8 (List.replicate 16 0)).toArray 43))
  rw [← hT]
  clear hT
  generalize w6.alloc (.cells (ints .u8 (List.replicate 16 0)).toArray 43) = w7 at *
  refine wp_region_from 2 1 2 rfl (by kernel_rfl) (by kernel_rfl) (fun d v c a w h => by cases d <;> exact h) (by kernel_rfl) ?_
  refine det_val (.slice (some ⟨T, 0, none⟩) 16 16) (by rfl) (fun w hw => by go_simp) ?_
  simp only [Act.put, List.setIfInBounds_toArray, List.set_cons_zero, List.set_cons_succ]
  refine det_val (.slice (some ⟨p6, 0, none⟩) 17 17) (by rfl) (fun w hw => by go_simp) ?_
  simp only [Act.put, List.setIfInBounds_toArray, List.set_cons_zero, List.set_cons_succ]
  refine det_nil (end_store (k := 2) rfl (by kernel_rfl) (by kernel_rfl) (by kernel_rfl) rfl (fun w8 hw8 => ?_))
  have H2 := Lib.hid (ext_blk H2.out hw8)
  have H6 := Lib.hid (ext_blk H6.out hw8)
  have H7 := Lib.hid (ext_blk H7.out hw8)
  have HE := Lib.hid (HE.out.trans hw8)
  clear hw8
  have HTL : Hid ((o17.take 16).length = 16) := Lib.hid (by rw [List.length_take, HO1.out]; rfl)
  refine wp_copy_blk _ _ 26 26 rfl 5 Try.underlying26 num_one _ _ _ _ _ _ rfl rfl T 0 _ _ H7.out ((o17.take 16).map bval) (by rw [List.length_map, HTL.out]; rfl) (fun _ => ⟨rfl, ⟨p6, 0, none⟩, rfl, fun j v hj => ?_⟩) (by rw [List.length_map, HTL.out]; simp) (bval_one _) ?_
  · have hj2 : j < 16 := by
      rcases Nat.lt_or_ge j 16 with h | h
      · exact h
      · rw [List.getElem?_eq_none (by rw [List.length_map, HTL.out]; omega)] at hj; cases hj
    rw [WideShapes.add_plain, Nat.zero_add, H6.out.cell, ← hj, List.getElem?_map, List.getElem?_map, List.getElem?_take, if_pos hj2]
  intro w9 hb9 hg9
  rw [tag_laid _ HTL.out] at hb9
  have H2 := Lib.hid (H2.out.grown hg9 (by have := HTA.out; simp; omega))
  have HE := Lib.hid (ext_grown HE.out hg9 (by have := HTA.out; have := HAW.out; omega))
  have H7 := Lib.hid hb9
  clear hb9 hg9
  generalize goInt ((o17.take 16).map bval).length = g3
  simp only [Act.put, List.getElem_toArray, List.getElem_cons_zero, List.getElem_cons_succ, List.setIfInBounds_toArray, List.set_cons_zero, List.set_cons_succ]
  generalize o17.take 16 = tg at *
  have HIt : Hid ((Try.prog.info? 43).map (·.size) = some (tg.map bval).length) := Lib.hid (ptag_size HTL.out)
  have HLt : Hid ((tg.map bval).length = (ints .u8 (List.replicate 16 0)).length) := Lib.hid (by rw [List.length_map, HTL.out]; rfl)
  go_wp2_with (first | (refine wpList_load_blk rfl _ _ rfl T rfl _ _ _ _ H7.out Try.underlying43 HIt.out ?_) | (refine wpList_store_blk rfl _ _ _ rfl (A + 1) (tg.map bval) rfl rfl _ _ H2.out HLt.out HIt.out (bval_one _) ?_; intro w10 hb10 hg10))
  refine bodyPost_ret (result_blk rfl _ (A + 1) _ _ _ _ rfl hb10 Try.underlying43 HIt.out) rfl ?_
  exact ⟨by rw [HO3.out, HMM.out], ext_grown HE.out hg10 (by have := HAW.out; omega)⟩

end Go.Proofs.Ytflefkmpllbeeaa

/- The walk of package mac's Same. Each theorem names its own conditions. -/
namespace Go.Proofs.Ytflefkmpllbeeaa
open Go.RowKit
set_option linter.unusedVariables false
set_option linter.unusedSimpArgs false

/-- What the lengths, and the first k bytes, are apart. -/
def apartN (a b : List UInt8) : Nat → Nat
  | 0 => a.length ^^^ b.length
  | k + 1 => apartN a b k ||| (a.getD k 0 ^^^ b.getD k 0).toNat
theorem nat_xor_zero (x y : Nat) : x ^^^ y = 0 ↔ x = y := by
  constructor
  · intro h
    have e : x ^^^ y ^^^ y = y := by rw [h, Nat.zero_xor]
    rwa [Nat.xor_assoc, Nat.xor_self, Nat.xor_zero] at e
  · rintro rfl
    exact Nat.xor_self _
theorem apartN_zero (a b : List UInt8) : ∀ k, apartN a b k = 0 ↔ a.length = b.length ∧ ∀ i, i < k → a.getD i 0 = b.getD i 0
  | 0 => by
    unfold apartN
    rw [nat_xor_zero]
    exact ⟨fun h => ⟨h, fun i hi => absurd hi (Nat.not_lt_zero _)⟩, fun h => h.1⟩
  | k + 1 => by
    unfold apartN
    rw [Nat.or_eq_zero_iff, apartN_zero a b k]
    have e : (a.getD k 0 ^^^ b.getD k 0).toNat = 0 ↔ a.getD k 0 = b.getD k 0 := by
      rw [UInt8.toNat_xor, nat_xor_zero]
      exact UInt8.toNat_inj
    rw [e]
    constructor
    · rintro ⟨⟨h1, h2⟩, h3⟩
      refine ⟨h1, fun i hi => ?_⟩
      rcases Nat.lt_or_ge i k with h | h
      · exact h2 i h
      · obtain rfl : i = k := by omega
        exact h3
    · rintro ⟨h1, h2⟩
      exact ⟨⟨h1, fun i hi => h2 i (by omega)⟩, h2 k (by omega)⟩
theorem apartN_same (a b : List UInt8) : apartN a b (min a.length b.length) = 0 ↔ a = b := by
  rw [apartN_zero]
  constructor
  · rintro ⟨h1, h2⟩
    apply List.ext_getElem h1
    intro i hi1 hi2
    have := h2 i (by omega)
    simpa [List.getD, hi1, hi2] using this
  · rintro rfl
    exact ⟨rfl, fun _ _ => rfl⟩
theorem apartN_lt (a b : List UInt8) (ha : a.length < 9223372036854775808) (hb : b.length < 9223372036854775808) : ∀ k, apartN a b k < 9223372036854775808
  | 0 => Nat.xor_lt_two_pow (n := 63) ha hb
  | k + 1 => by
    have h := (a.getD k 0 ^^^ b.getD k 0).toNat_lt
    exact Nat.or_lt_two_pow (n := 63) (apartN_lt a b ha hb k) (Nat.lt_trans h (by decide))
theorem xor_i64 (a b : Nat) (ha : a < 9223372036854775808) (hb : b < 9223372036854775808) : bits .xor .i64 (a : Int) (b : Int) = ((a ^^^ b : Nat) : Int) := by
  have h1 : (BitVec.ofInt 64 (a : Int)).toNat = a := by rw [BitVec.toNat_ofInt]; omega
  have h2 : (BitVec.ofInt 64 (b : Int)).toNat = b := by rw [BitVec.toNat_ofInt]; omega
  have hl : a ^^^ b < 9223372036854775808 := Nat.xor_lt_two_pow (n := 63) ha hb
  show IntKind.i64.wrap ((BitVec.ofInt 64 (a : Int) ^^^ BitVec.ofInt 64 (b : Int)).toNat : Nat) = _
  rw [BitVec.toNat_xor, h1, h2, IntKind.wrap_i64]
  omega

set_option maxRecDepth 100000 in
set_option maxHeartbeats 4000000 in
theorem MacSame_num (av bv : Value) (a b : List UInt8) (w : World) (ha : Row1 w av (a.map bval)) (hb : Row1 w bv (b.map bval)) :
    Calls Try.prog 20 #[av, bv] w fun e w' => e = .returned (.bool (decide (a = b))) ∧ Below w.heap.size w w' := by
  have HA := Lib.hid ha
  have HB := Lib.hid hb
  obtain ⟨a1, c1, rfl, p1, p2, p3, p4⟩ := id ha
  obtain ⟨a2, c2, rfl, q1, q2, q3, q4⟩ := id hb
  rw [List.length_map] at p1 q1 HA HB ⊢
  rw [List.length_map]
  unfold maxLen at p2 q2
  have hla : a.length < 9223372036854775808 := by omega
  have hlb : b.length < 9223372036854775808 := by omega
  have hx0 := xor_i64 a.length b.length hla hlb
  have HLT := Lib.hid (apartN_lt a b hla hlb)
  have HSAME := Lib.hid (apartN_same a b)
  have HCA := Lib.hid p4
  have HCB := Lib.hid q4
  have HLA := Lib.hid hla
  clear ha hb HA HB p1 p2 p3 p4 q1 q2 q3 q4 hla hlb
  go_enter Try.func20, Try.ntmps20
  go_upto_region 3 with (fail)
  all_goals
    have HMIN : Hid (∃ m : Nat, m = min a.length b.length ∧ m ≤ a.length ∧ m ≤ b.length) := Lib.hid ⟨_, rfl, Nat.min_le_left _ _, Nat.min_le_right _ _⟩
    obtain ⟨m, hm, m1, m2⟩ := HMIN.out
    have HMB : Hid (m = a.length ∧ a.length ≤ b.length ∨ m = b.length ∧ b.length ≤ a.length) := Lib.hid (by omega)
    rw [← hm] at HSAME
    have HM := Lib.hid hm
    clear hm hx0 HMIN
    go_loopw [5, 17] (fun ap iv wr => ∃ (j : Nat), j ≤ m ∧ ap = .int .i64 (apartN a b j : Int) ∧ iv = .int .i64 (j : Int) ∧ Ext w wr) (fun _ iv _ => m - (intOf iv).toNat)
    case atStart => exact ⟨0, by omega, rfl, rfl, Ext.refl w⟩
    case round =>
      obtain ⟨j, hj, rfl, rfl, hE⟩ := hrel
      have HE := Lib.hid hE
      clear hE
      have k0 : (0 : Int) ≤ (j : Int) := Int.natCast_nonneg _
      by_cases hlj : j < m
      · have ka : (j : Int) < (a.length : Int) := by omega
        have kb : (j : Int) < (b.length : Int) := by omega
        have hja : j < a.length := by omega
        have j63 : (j : Int) + 1 ≤ 9223372036854775807 := by have := HLA.out; omega
        have hjb : j < b.length := by omega
        obtain ⟨g1, o1, rfl, s1, t1⟩ := HCA.out (by intro e; have h := congrArg List.length e; rw [List.length_map] at h; simp only [List.length_nil] at h; omega)
        obtain ⟨g2, o2, rfl, s2, t2⟩ := HCB.out (by intro e; have h := congrArg List.length e; rw [List.length_map] at h; simp only [List.length_nil] at h; omega)
        have c1 : wr.cell? ⟨g1, o1 + j, none⟩ = some (.int .u8 ((a.getD j 0).toNat : Int)) := by
          have h := t1 j (by rw [List.length_map]; exact hja)
          rw [bval_get hja] at h
          rw [← h]
          exact HE.out.cell (p := ⟨g1, o1 + j, none⟩) s1
        have c2 : wr.cell? ⟨g2, o2 + j, none⟩ = some (.int .u8 ((b.getD j 0).toNat : Int)) := by
          have h := t2 j (by rw [List.length_map]; exact hjb)
          rw [bval_get hjb] at h
          rw [← h]
          exact HE.out.cell (p := ⟨g2, o2 + j, none⟩) s2
        have x1 := xor_u8 (a.getD j 0) (b.getD j 0)
        have hy := (a.getD j 0 ^^^ b.getD j 0).toNat_lt
        have x2 := or_i64 (apartN a b j) (a.getD j 0 ^^^ b.getD j 0).toNat (HLT.out j) (Nat.lt_trans hy (by decide))
        have e2 : (apartN a b j ||| (a.getD j 0 ^^^ b.getD j 0).toNat) = apartN a b (j + 1) := rfl
        rw [e2] at x2
        have w1 : IntKind.i64.wrap (((a.getD j 0 ^^^ b.getD j 0).toNat : Nat) : Int) = ((a.getD j 0 ^^^ b.getD j 0).toNat : Int) := by rw [IntKind.wrap_i64]; omega
        have S1 := Lib.hid s1
        have S2 := Lib.hid s2
        clear e2 s1 s2 t1 t2 HSAME HLT HMB HCA HCB
        generalize (a.getD j 0 ^^^ b.getD j 0).toNat = y at *
        generalize (a.getD j 0).toNat = y1 at *
        generalize (b.getD j 0).toNat = y2 at *
        generalize hz : apartN a b (j + 1) = z at *
        generalize apartN a b j = z0 at *
        have HZ := Lib.hid hz
        clear hz
        go_wp2_with fail
        go_region
        go_wp2_with fail
        go_roundw
        case rel => exact ⟨j + 1, by omega, by rw [HZ.out], by go_num, HE.out.trans (Ext.drew _)⟩
        case measure => simp [intOf]; omega
      · obtain rfl : j = m := by omega
        have hge : ¬ (j : Int) < (a.length : Int) ∨ ¬ (j : Int) < (b.length : Int) := by rcases HMB.out with h | h <;> omega
        rcases Nat.eq_zero_or_pos (apartN a b j) with hz | hz
        · have e : decide (a = b) = true := decide_eq_true (HSAME.out.1 hz)
          have t0 : ((apartN a b j : Nat) : Int) = 0 := by omega
          have HD := Lib.hid e
          clear e HSAME
          generalize apartN a b j = z at *
          subst hz
          go_wp2_with fail
          go_ret
          exact ⟨by rw [HD.out]; rfl, HE.out⟩
        · have e : decide (a = b) = false := decide_eq_false (fun h => by have := HSAME.out.2 h; omega)
          have t0 : (((apartN a b j : Nat) : Int) == 0) = false := by simp; omega
          have HD := Lib.hid e
          clear e HSAME
          generalize apartN a b j = z at *
          go_wp2_with fail
          go_ret
          exact ⟨by rw [HD.out]; rfl, HE.out⟩
theorem MacSame_val (av bv : Value) (a b : List UInt8) (r : Bool) (w : World) (ha : Row1 w av (a.map bval)) (hb : Row1 w bv (b.map bval)) (hr : decide (a = b) = r) :
    Calls Try.prog 20 #[av, bv] w fun e w' => e = .returned (.bool r) ∧ Below w.heap.size w w' := by
  subst hr
  exact MacSame_num av bv a b w ha hb

end Go.Proofs.Ytflefkmpllbeeaa

/- A row of the call's own: its length, its form. Nothing here speaks of a program. Each theorem names its own conditions. -/
namespace Go.Proofs.Ytflefkmpllbeeaa
open Go.RowKit
set_option linter.unusedVariables false
set_option linter.unusedSimpArgs false

/-- A slice's length. -/
def lenOf : Value → Nat
  | .slice _ n _ => n
  | _ => 0

theorem ownRow_len {w : World} {base : Nat} {e : TypeId} {n : Nat} {x : Value} {xs : List Value} (h : w.ownsRow base e 1 x n xs) : lenOf x = n := by
  obtain ⟨_, ⟨rfl, rfl⟩ | ⟨g, cap, cur, rfl, _⟩⟩ := h
  · rfl
  · rfl
theorem own_eq {w : World} {base : Nat} {e : TypeId} {n m : Nat} {x : Value} {xs ys : List Value} (h : w.ownsRow base e 1 x n xs) (hn : n = m) (hx : xs = ys) : w.ownsRow base e 1 x m ys := by
  subst hn; subst hx
  exact h

/-- A row of the call's own was appended to: what lies below its base stands. -/
theorem below_own {a b d : World} {base : Nat} {e : TypeId} {n : Nat} {x : Value} {xs : List Value} (h : Below base a b) (ho : b.ownsRow base e 1 x n xs) (hg : b.grownBy d x.ownBlock) (hb : base ≤ b.heap.size) : Below base a d :=
  Below.grown h hg hb (fun r hr => by
    obtain ⟨_, h1 | ⟨g, cap, cur, rfl, h2, _⟩⟩ := ho
    · obtain ⟨rfl, _⟩ := h1
      cases hr
    · cases hr
      exact h2)

/-- One cell of a row of the call's own is read, and written. -/
theorem own_put {w : World} {base : Nat} {e : TypeId} {n : Nat} {x : Value} {xs : List Value} (h : w.ownsRow base e 1 x n xs) (k : Nat) (hk : k < n) :
    ∃ g cap, x = .slice (some ⟨g, 0, none⟩) n cap ∧ base ≤ g ∧ g < w.heap.size ∧ w.cell? ⟨g, k, none⟩ = xs[k]? ∧ w.frozen? ⟨g, k, none⟩ = false ∧ ∀ u, (w.setCell ⟨g, k, none⟩ u).ownsRow base e 1 x n (xs.set k u) := by
  obtain ⟨hl, h1 | ⟨g, cap, cur, rfl, h2, h3, h4, h5, h6, h7⟩⟩ := h
  · omega
  · rw [Nat.mul_one] at hl h6 h7
    have hB : Blk w g cur.toList e := by
      show w.heap[g]? = some (.cells cur.toList.toArray e (0, 0))
      rw [Array.toArray_toList]
      exact h3
    refine ⟨g, cap, rfl, h2, hB.lt, ?_, hB.free k, fun u => ⟨by rw [List.length_set, Nat.mul_one]; exact hl, Or.inr ⟨g, cap, cur.setIfInBounds k u, rfl, h2, heap_setCell_same w g k cur e u h3, h4, h5, by simp; omega, ?_⟩⟩⟩
    · rw [hB.cell, ← h7, List.getElem?_take, if_pos hk]
    · rw [Nat.mul_one, Array.toList_setIfInBounds, List.take_set, h7]

end Go.Proofs.Ytflefkmpllbeeaa

/- The walks of the document's own filled and length. Each theorem names its own conditions. -/
namespace Go.Proofs.Ytflefkmpllbeeaa
open Go.RowKit
set_option linter.unusedVariables false
set_option linter.unusedSimpArgs false

def fA (l : List UInt8) (k : Nat) : List UInt8 := l ++ List.replicate k 0
theorem fA_succ (l : List UInt8) (k : Nat) : fA l (k + 1) = fA l k ++ [0] := by
  unfold fA
  rw [List.replicate_succ', List.append_assoc]
theorem fA_length (l : List UInt8) (k : Nat) : (fA l k).length = l.length + k := by simp [fA]
theorem fA_full (l : List UInt8) : fA l ((16 - l.length % 16) % 16) = l ++ z16 l.length := rfl

set_option maxRecDepth 100000 in
set_option maxHeartbeats 4000000 in
theorem rFilled_any (v : Value) (l : List UInt8) (base : Nat) (w : World) (hv : w.ownsRow base 5 1 v l.length (l.map bval)) (hb : base ≤ w.heap.size) (hl : l.length ≤ 1099511627776) :
    Calls Try.prog 39 #[v] w fun e w' => ∃ x, e = .returned x ∧ w'.ownsRow base 5 1 x (l ++ z16 l.length).length ((l ++ z16 l.length).map bval) ∧ Below base w w' := by
  obtain ⟨i0, hi, hz0, hz1, hz2⟩ := info_parts Try.info5
  have HI0 := Lib.hid hi
  have HZ0 := Lib.hid hz0
  have HZ1 := Lib.hid hz1
  have HZ2 := Lib.hid hz2
  have HO0 : Hid (w.ownsRow base 5 1 v (fA l 0).length ((fA l 0).map bval)) := Lib.hid (by simpa [fA] using hv)
  have HBS := Lib.hid hb
  have HFF := Lib.hid (fA_full l)
  clear hv hb hi hz0 hz1 hz2
  go_enter Try.func39, Try.ntmps39
  go_wp2_with fail
  go_loopw [0] (fun x wr => ∃ (k : Nat), k ≤ (16 - l.length % 16) % 16 ∧ wr.ownsRow base 5 1 x (fA l k).length ((fA l k).map bval) ∧ Below base w wr) (fun x _ => l.length + 16 - lenOf x)
  case atStart => exact ⟨0, by omega, HO0.out, Below.refl _ _⟩
  case round =>
    clear HO0
    obtain ⟨k, hk, ho, hE⟩ := hrel
    obtain ⟨a2, cap2, rfl, s1, s2, _⟩ := id (Row1.of_own ho)
    have hpl := fA_length l k
    have HO := Lib.hid ho
    have HE := Lib.hid hE
    rw [List.length_map, hpl] at s1 HO ⊢
    unfold maxLen at s2
    clear ho hE
    by_cases hkn : k = (16 - l.length % 16) % 16
    · have hd : (((l.length + k : Nat) : Int) % 16 != 0) = false := by simp; omega
      have HK : Hid (fA l k = l ++ z16 l.length) := Lib.hid (by rw [hkn]; exact HFF.out)
      have HN : Hid (l.length + k = (l ++ z16 l.length).length) := Lib.hid (by rw [← HK.out, hpl])
      clear hpl hkn s1 s2 hk
      generalize l.length + k = n at *
      go_wp2_with fail
      go_ret
      exact ⟨_, rfl, own_eq HO.out HN.out (by rw [HK.out]), HE.out⟩
    · have hd : (((l.length + k : Nat) : Int) % 16 != 0) = true := by simp; omega
      have HS := Lib.hid HE.out.size
      have HK : Hid (k < (16 - l.length % 16) % 16) := Lib.hid (by omega)
      generalize hn : l.length + k = n at *
      have HN := Lib.hid hn
      have hn9 : n ≤ 1099511627900 := by omega
      clear hn hpl hkn hk
      go_wp2_with (at_builtin; refine wpList_append_row rfl _ _ 26 rfl base 5 i0 (.int .u8 0) 1 Try.underlying26 HI0.out HZ0.out HZ1.out HZ2.out rfl _ n _ rfl (HO.out.alloc _) rfl (Row1.made _ #[.int .u8 0] _ _ 1 ([0].map bval) rfl rfl rfl (by unfold maxLen; omega)) (bval_one _) (by unfold maxLen; simp; omega) (by simp; omega) (by simp; have := HS.out; have := HBS.out; omega) ?_; intro v3 w3 hown3 hgrow3)
      go_roundw
      case rel =>
        refine ⟨k + 1, HK.out, own_eq hown3 (by rw [fA_length, ← HN.out]; simp; omega) (by rw [fA_succ, List.map_append]), below_own (HE.out.trans (Below.mono (Ext.alloc wr (.cells #[.int .u8 0] 5)) (by have := HS.out; have := HBS.out; omega))) (HO.out.alloc _) hgrow3 (by simp; have := HS.out; have := HBS.out; omega)⟩
      case measure =>
        rw [ownRow_len hown3]
        have := HN.out
        have := HK.out
        simp [lenOf]
        omega

/-- The first k bytes of a number. -/
theorem bytesN_succ : ∀ (k n : Nat), bytesN (k + 1) n = bytesN k n ++ [UInt8.ofNat (n / 256 ^ k % 256)] := fun k n => by
  have h := bytesN_append k 1 n
  rw [h]
  congr 1

set_option maxRecDepth 100000 in
set_option maxHeartbeats 4000000 in
theorem rLength_any (n : Nat) (w : World) (hn : n ≤ 1099511627776) :
    Calls Try.prog 40 #[.int .i64 (n : Int)] w fun e w' => ∃ x, e = .returned x ∧ w'.ownsRow w.heap.size 5 1 x 8 ((bytesN 8 n).map bval) ∧ Below w.heap.size w w' := by
  obtain ⟨i0, hi, hz0, hz1, hz2⟩ := info_parts Try.info5
  have HI0 := Lib.hid hi
  have HZ0 := Lib.hid hz0
  have HZ1 := Lib.hid hz1
  have HZ2 := Lib.hid hz2
  have HO0 : Hid (w.ownsRow w.heap.size 5 1 (.slice none 0 0) 0 ((bytesN 0 n).map bval)) := Lib.hid (World.ownsRow_nil _ _ _ _)
  clear hi hz0 hz1 hz2
  go_enter Try.func40, Try.ntmps40
  go_wp2_with fail
  go_loopw [3, 4] (fun x iv wr => ∃ (k : Nat), k ≤ 8 ∧ iv = .int .i64 (k : Int) ∧ wr.ownsRow w.heap.size 5 1 x k ((bytesN k n).map bval) ∧ Ext w wr) (fun _ iv _ => 8 - (intOf iv).toNat)
  case atStart => exact ⟨0, by omega, rfl, HO0.out, Ext.refl _⟩
  case round =>
    clear HO0
    obtain ⟨k, hk, rfl, ho, hE⟩ := hrel
    have k0 : (0 : Int) ≤ (k : Int) := Int.natCast_nonneg _
    have HO := Lib.hid ho
    have HE := Lib.hid hE
    have HS := Lib.hid hE.size
    by_cases hk8 : k < 8
    · have k1 : (k : Int) < 8 := by omega
      have HBS := Lib.hid (bytesN_succ k n)
      obtain ⟨s, hs⟩ : ∃ s : Nat, s = 8 * k := ⟨_, rfl⟩
      have hs2 : 8 * (k : Int) = (s : Int) := by omega
      have s64 : (s : Int) < 64 := by omega
      have s0 : (0 : Int) ≤ (s : Int) := by omega
      have e1 : (2 : Int) ^ s = ((256 ^ k : Nat) : Int) := by rw [hs, Int.pow_mul]; simp
      have hv2 : (n : Int) / 2 ^ s = ((n / 256 ^ k : Nat) : Int) := by rw [e1, ← Int.natCast_ediv]
      have hvb : n / 256 ^ k ≤ n := Nat.div_le_self _ _
      have hq : ((UInt8.ofNat (n / 256 ^ k % 256)).toNat : Int) = ((n / 256 ^ k : Nat) : Int) % 256 := by rw [UInt8.toNat_ofNat']; omega
      generalize UInt8.ofNat (n / 256 ^ k % 256) = c at *
      generalize n / 256 ^ k = q at *
      have hm := and_i64_255 (q : Int) (by omega) (by omega)
      have HBV : Hid (bval c = .int .u8 ((q : Int) % 256)) := Lib.hid (by unfold bval; rw [hq])
      clear ho hE hs hq e1
      go_wp2_with (at_builtin; refine wpList_append_row rfl _ _ 26 rfl w.heap.size 5 i0 (.int .u8 0) 1 Try.underlying26 HI0.out HZ0.out HZ1.out HZ2.out rfl _ k _ rfl (HO.out.alloc _) rfl (Row1.made _ #[.int .u8 ((q : Int) % 256)] _ _ 1 [.int .u8 ((q : Int) % 256)] rfl rfl rfl (by unfold maxLen; omega)) (by intro u hu; simp at hu; subst hu; rfl) (by unfold maxLen; simp; omega) (by simp; omega) (by simp; have := HS.out; omega) ?_; intro v3 w3 hown3 hgrow3)
      go_roundw
      case rel =>
        refine ⟨k + 1, by omega, by go_num, own_eq hown3 (by simp) (by rw [HBS.out, List.map_append, List.map_cons, List.map_nil, HBV.out]), ext_own (HE.out.trans (Ext.alloc wr _)) (HO.out.alloc _) (Nat.le_refl _) hgrow3⟩
      case measure => simp [intOf]; omega
    · have hk8' : k = 8 := by omega
      subst hk8'
      clear ho hE
      go_wp2_with fail
      go_ret
      exact ⟨_, rfl, HO.out, HE.out⟩

end Go.Proofs.Ytflefkmpllbeeaa

/- The walk of the document's own carry of seventeen digits. Each theorem names its own conditions. -/
namespace Go.Proofs.Ytflefkmpllbeeaa
open Go.RowKit
set_option linter.unusedVariables false
set_option linter.unusedSimpArgs false

theorem Try.arr83 : (Try.prog.info? 83).map (·.size) = some 17 := by kernel_rfl
theorem d17_size {l : List Int} (h : l.length = 17) : (Try.prog.info? 83).map (·.size) = some (ints .i64 l).length := by rw [ints_length, h]; exact Try.arr83
theorem and_i64_3 (a : Int) (h1 : -9223372036854775808 ≤ a) (h2 : a ≤ 9223372036854775807) : bits .and .i64 a 3 = a % 4 := by
  have h : (BitVec.ofInt 64 3).toNat = 2 ^ 2 - 1 := by decide
  have key : (BitVec.ofInt 64 a &&& BitVec.ofInt 64 3).toNat = (a % ((2 ^ 64 : Nat) : Int)).toNat % 2 ^ 2 := by
    rw [BitVec.toNat_and, BitVec.toNat_ofInt, h, Nat.and_two_pow_sub_one_eq_mod]
  show IntKind.i64.wrap ((BitVec.ofInt 64 a &&& BitVec.ofInt 64 3).toNat : Nat) = _
  rw [key, IntKind.wrap_i64]
  omega
def qN (h : List Int) : Nat → List Int
  | 0 => h
  | k + 1 => qPass (qN h k)
theorem qN_length (h : List Int) : ∀ k, (qN h k).length = h.length
  | 0 => rfl
  | k + 1 => by rw [qN, qPass_length, qN_length h k]
theorem qN_three (h : List Int) : qN h 3 = qThree h := rfl
theorem qPass_le (h : List Int) (hl : h.length = 17) {M : Int} (hM : 255 ≤ M) (hn : ∀ i, 0 ≤ h.getD i 0 ∧ h.getD i 0 ≤ M) : ∀ i, 0 ≤ (qPass h).getD i 0 ∧ (qPass h).getD i 0 ≤ 4 * M := by
  intro i
  refine ⟨qPass_nonneg h hl (fun i => (hn i).1) i, ?_⟩
  have hlen : (qRun h 16).1.length = 17 := by rw [qRun_length, hl]
  have hs := qRun_small h hl 16 (Nat.le_refl _)
  have hu := qRun_top h hn 16
  have hu0 := qRun_nonneg h (fun i => (hn i).1) 16
  have h16 := hn 16
  unfold qPass
  by_cases e : i = 0
  · subst e
    rw [getD_set_same (by simp [hlen])]
    have := hs 0 (by omega)
    omega
  · rw [getD_set_far (by omega)]
    by_cases e2 : i = 16
    · subst e2
      rw [getD_set_same (by omega)]
      omega
    · rw [getD_set_far (by omega)]
      rcases Nat.lt_or_ge i 16 with h | h
      · have := (hs i h).2
        omega
      · rw [getD_out (by omega)]
        omega
theorem qN_le (h : List Int) (hl : h.length = 17) (hn : ∀ i, 0 ≤ h.getD i 0 ∧ h.getD i 0 ≤ 1099511627776) (k : Nat) (hk : k ≤ 3) : ∀ i, 0 ≤ (qN h k).getD i 0 ∧ (qN h k).getD i 0 ≤ 70368744177664 := by
  have l1 : (qN h 1).length = 17 := by rw [qN_length, hl]
  have l2 : (qN h 2).length = 17 := by rw [qN_length, hl]
  have b1 := qPass_le h hl (by omega) hn
  have b2 := qPass_le (qN h 1) l1 (by omega) b1
  have b3 := qPass_le (qN h 2) l2 (by omega) b2
  intro i
  rcases (by omega : k = 0 ∨ k = 1 ∨ k = 2 ∨ k = 3) with rfl | rfl | rfl | rfl
  · have := hn i
    exact ⟨this.1, Int.le_trans this.2 (by decide)⟩
  · exact ⟨(b1 i).1, Int.le_trans (b1 i).2 (by decide)⟩
  · exact ⟨(b2 i).1, Int.le_trans (b2 i).2 (by decide)⟩
  · exact ⟨(b3 i).1, Int.le_trans (b3 i).2 (by decide)⟩
theorem digit_cell {w : World} {S i : Nat} {l : List Int} {t : TypeId} (h : Blk w S (ints .i64 l) t) (hi : i < l.length) : w.cell? ⟨S, i, none⟩ = some (.int .i64 (l.getD i 0)) := by
  rw [h.cell, ints_get hi]

set_option maxRecDepth 100000 in
set_option maxHeartbeats 16000000 in
theorem carried17_any (H : List Int) (w : World) (hl : H.length = 17) (hb : ∀ i, 0 ≤ H.getD i 0 ∧ H.getD i 0 ≤ 1099511627776) :
    Calls Try.prog 56 #[.agg (ints .i64 H).toArray] w fun e w' => e = .returned (.agg (ints .i64 (qThree H)).toArray) ∧ Below w.heap.size w w' := by
  have HL := Lib.hid hl
  have HBD := Lib.hid (qN_le H hl hb)
  have HB := Lib.hid (boxes2 w (ints .i64 H) (ints .i64 (List.replicate 17 0)) 83 83)
  clear hl hb
  go_enter Try.func56, Try.ntmps56
  go_upto_region 1 with (fail)
  obtain ⟨H1, H2, HE⟩ := HB.out
  change Code.wp _ _ _ _ ((w.alloc (.cells (ints .i64 H).toArray 83)).alloc (.cells (ints .i64 (List.replicate 17 0)).toArray 83))
  generalize (w.alloc (.cells (ints .i64 H).toArray 83)).alloc (.cells (ints .i64 (List.replicate 17 0)).toArray 83) = wa at *
  obtain ⟨A, hA⟩ : ∃ A, A = w.heap.size := ⟨_, rfl⟩
  have HAW : Hid (w.heap.size ≤ A) := Lib.hid (by omega)
  rw [← hA] at H1 H2 ⊢
  have H1 := Lib.hid H1
  have H2 := Lib.hid H2
  have HE : Hid (Ext w wa) := Lib.hid HE
  clear hA HB
  go_wp2_with fail
  go_loopw [3] (fun kv wr => ∃ (k : Nat), k ≤ 3 ∧ kv = .int .i64 (k : Int) ∧ Blk wr A (ints .i64 (qN H k)) 83 ∧ Blk wr (A + 1) (ints .i64 (List.replicate 17 0)) 83 ∧ Ext w wr) (fun kv _ => 3 - (intOf kv).toNat)
  case atStart => exact ⟨0, by omega, rfl, H1.out, H2.out, HE.out⟩
  case round =>
    clear H1 H2 HE
    obtain ⟨k, hk, rfl, hb1, hb2, hbel⟩ := hrel
    have k0 : (0 : Int) ≤ (k : Int) := Int.natCast_nonneg _
    by_cases hlk : k < 3
    · have k1 : (k : Int) < 3 := by omega
      have HQ : Hid (qN H (k + 1) = qPass (qN H k)) := Lib.hid rfl
      have HBh := Lib.hid (HBD.out k (by omega))
      have HLh : Hid ((qN H k).length = 17) := Lib.hid (by rw [qN_length]; exact HL.out)
      have H1 := Lib.hid hb1
      have H2 := Lib.hid hb2
      have HE := Lib.hid hbel
      clear hb1 hb2 hbel
      generalize qN H k = h at *
      go_wp2_with fail
      go_loopw [4, 5] (fun uv iv wr => ∃ (i : Nat), i ≤ 16 ∧ uv = .int .i64 (qRun h i).2 ∧ iv = .int .i64 (i : Int) ∧ Blk wr A (ints .i64 (qRun h i).1) 83 ∧ Blk wr (A + 1) (ints .i64 (List.replicate 17 0)) 83 ∧ Ext w wr) (fun _ iv _ => 16 - (intOf iv).toNat)
      case atStart => exact ⟨0, by omega, rfl, rfl, H1.out, H2.out, HE.out⟩
      case round =>
        clear H1 H2 HE
        obtain ⟨i, hi, rfl, rfl, hb1, hb2, hbel⟩ := hrel
        have i0 : (0 : Int) ≤ (i : Int) := Int.natCast_nonneg _
        have hu0 := qRun_nonneg h (fun i => (HBh.out i).1) i
        have hu1 := qRun_top h HBh.out i
        have hrl : (qRun h i).1.length = 17 := by rw [qRun_length]; exact HLh.out
        have H1 := Lib.hid hb1
        have H2 := Lib.hid hb2
        have HE := Lib.hid hbel
        by_cases hli : i < 16
        · have i1 : (i : Int) < 17 := by omega
          have i2 : (i : Int) < 16 := by omega
          have c1 := digit_cell hb1 (i := i) (by rw [hrl]; omega)
          have f1 := hb1.free i
          have hz := HBh.out i
          have hfar := qRun_far h i i (Nat.le_refl _)
          have HS1 : Hid ((qRun h (i + 1)).1 = (qRun h i).1.set i (((qRun h i).2 + (qRun h i).1.getD i 0) % 256)) := Lib.hid rfl
          have HS2 : Hid ((qRun h (i + 1)).2 = ((qRun h i).2 + (qRun h i).1.getD i 0) / 256) := Lib.hid rfl
          rw [← hfar] at hz
          clear hb1 hb2 hbel hfar
          generalize (qRun h i).1.getD i 0 = z at *
          generalize (qRun h i).2 = u at *
          obtain ⟨z0, z1⟩ := hz
          have a1 := and_i64_255 (u + z) (by omega) (by omega)
          go_wp2_with fail
          go_roundw
          case rel =>
            refine ⟨i + 1, by omega, by rw [HS2.out], by go_num, ?_, H2.out.far (by simp) _, Below.setCell HE.out (by have := HAW.out; simp; omega) _⟩
            rw [HS1.out]
            exact H1.out.seti i _
          case measure => simp [intOf]; omega
        · have hi16 : i = 16 := by omega
          subst hi16
          rw [show ((16 : Nat) : Int) = 16 from rfl]
          have HP : Hid (qPass h = ((qRun h 16).1.set 16 (((qRun h 16).2 + h.getD 16 0) % 4)).set 0 ((qRun h 16).1.getD 0 0 + 5 * (((qRun h 16).2 + h.getD 16 0) / 4))) := Lib.hid rfl
          have c1 := digit_cell hb1 (i := 16) (by rw [hrl]; omega)
          have f1 := hb1.free 16
          have hz := HBh.out 16
          have hfar := qRun_far h 16 16 (Nat.le_refl _)
          rw [hfar] at c1
          have hsm := qRun_small h HLh.out 16 (Nat.le_refl _) 0 (by omega)
          clear hb1 hb2 hbel hfar
          generalize hqr : (qRun h 16).1 = rr at *
          generalize (qRun h 16).2 = u at *
          generalize h.getD 16 0 = z at *
          obtain ⟨z0, z1⟩ := hz
          have a1 := and_i64_3 (u + z) (by omega) (by omega)
          have H1n : Hid (Blk (wr.setCell ⟨A, 16, none⟩ (.int .i64 ((u + z) % 4))) A (ints .i64 (rr.set 16 ((u + z) % 4))) 83) := Lib.hid (H1.out.seti 16 _)
          have H2n := Lib.hid (H2.out.far (a := ⟨A, 16, none⟩) (by simp) (.int .i64 ((u + z) % 4)))
          have HEn : Hid (Ext w (wr.setCell ⟨A, 16, none⟩ (.int .i64 ((u + z) % 4)))) := Lib.hid (Below.setCell HE.out (by have := HAW.out; simp; omega) _)
          go_upto_region 13 with (fail)
          clear H1 H2 HE c1 f1 a1
          generalize wr.setCell ⟨A, 16, none⟩ (.int .i64 ((u + z) % 4)) = w5 at *
          have c1 := digit_cell H1n.out (i := 0) (by rw [List.length_set, hrl]; omega)
          rw [getD_set_far (by omega)] at c1
          have f1 := H1n.out.free 0
          have H1m := Lib.hid (H1n.out.seti 0 (rr.getD 0 0 + 5 * ((u + z) / 4)))
          rw [← HP.out] at H1m
          generalize rr.getD 0 0 = y at *
          obtain ⟨y0, y1⟩ := hsm
          go_wp2_with fail
          go_roundw
          case rel => exact ⟨k + 1, by omega, by go_num, by rw [HQ.out]; exact H1m.out, H2n.out.far (by simp) _, Below.setCell HEn.out (by have := HAW.out; simp; omega) _⟩
          case measure => simp [intOf]; omega
    · have hk3 : k = 3 := by omega
      subst hk3
      rw [qN_three] at hb1
      have hlen : (qThree H).length = 17 := by rw [← qN_three, qN_length]; exact HL.out
      obtain ⟨o, ho⟩ : ∃ o, o = qThree H := ⟨_, rfl⟩
      rw [← ho] at hb1 hlen
      have HO := Lib.hid ho
      have H1 := Lib.hid hb1
      have H2 := Lib.hid hb2
      have HE := Lib.hid hbel
      have HIo := Lib.hid (d17_size hlen)
      have HLo : Hid ((ints .i64 o).length = (ints .i64 (List.replicate 17 0)).length) := Lib.hid (by rw [ints_length, hlen, ints_length, List.length_replicate])
      clear hb1 hb2 hbel ho hlen
      go_wp2_with (first | (refine wpList_load_blk rfl _ _ rfl A rfl _ _ _ _ H1.out Try.underlying83 HIo.out ?_) | (refine wpList_store_blk rfl _ _ _ rfl (A + 1) (ints .i64 o) rfl rfl _ _ H2.out HLo.out HIo.out (ints_one _ _) ?_; intro w9 hb9 hg9))
      refine bodyPost_ret (result_blk rfl _ (A + 1) _ _ _ _ rfl hb9 Try.underlying83 HIo.out) rfl ?_
      exact ⟨by rw [HO.out], ext_grown HE.out hg9 (by have := HAW.out; omega)⟩

end Go.Proofs.Ytflefkmpllbeeaa

/- The walk of the document's own product of seventeen digits. Each theorem names its own conditions. -/
namespace Go.Proofs.Ytflefkmpllbeeaa
open Go.RowKit
set_option linter.unusedVariables false
set_option linter.unusedSimpArgs false

theorem tCo_lo (r : List Int) {i j : Nat} (h : j ≤ i) : tCo r i j = r.getD (i - j) 0 := by unfold tCo; rw [if_pos h]
theorem tCo_hi (r : List Int) {i j : Nat} (h : i < j) : tCo r i j = 320 * r.getD (i + 17 - j) 0 := by unfold tCo; rw [if_neg (by omega)]
theorem tList_le {h r : List Int} (hh : ∀ i, 0 ≤ h.getD i 0 ∧ h.getD i 0 ≤ 1024) (hr : ∀ i, 0 ≤ r.getD i 0 ∧ r.getD i 0 ≤ 255) : ∀ i, 0 ≤ (tList h r 17).getD i 0 ∧ (tList h r 17).getD i 0 ≤ 1420492800 := fun i => by
  rw [tList_getD h r 17 (Nat.le_refl _)]
  split
  · have := tRun_bound hh hr i 17
    omega
  · omega

set_option maxRecDepth 100000 in
set_option maxHeartbeats 16000000 in
theorem times17_any (H R : List Int) (w : World) (hl : H.length = 17) (rl : R.length = 17) (hh : ∀ i, 0 ≤ H.getD i 0 ∧ H.getD i 0 ≤ 1024) (hr : ∀ i, 0 ≤ R.getD i 0 ∧ R.getD i 0 ≤ 255) :
    Calls Try.prog 50 #[.agg (ints .i64 H).toArray, .agg (ints .i64 R).toArray] w fun e w' => e = .returned (.agg (ints .i64 (qThree (tList H R 17))).toArray) ∧ Below w.heap.size w w' := by
  have HHL := Lib.hid hl
  have HRL := Lib.hid rl
  have HH := Lib.hid hh
  have HR := Lib.hid hr
  have HB := Lib.hid (boxes4 w (ints .i64 H) (ints .i64 R) (ints .i64 (List.replicate 17 0)) (ints .i64 (List.replicate 17 0)) 83 83 83 83)
  clear hl rl hh hr
  go_enter Try.func50, Try.ntmps50
  go_upto_region 2 with (fail)
  obtain ⟨H1, H2, H3, H4, HE⟩ := HB.out
  change Code.wp _ _ _ _ ((((w.alloc (.cells (ints .i64 H).toArray 83)).alloc (.cells (ints .i64 R).toArray 83)).alloc (.cells (ints .i64 (List.replicate 17 0)).toArray 83)).alloc (.cells (ints .i64 (List.replicate 17 0)).toArray 83))
  generalize (((w.alloc (.cells (ints .i64 H).toArray 83)).alloc (.cells (ints .i64 R).toArray 83)).alloc (.cells (ints .i64 (List.replicate 17 0)).toArray 83)).alloc (.cells (ints .i64 (List.replicate 17 0)).toArray 83) = wa at *
  obtain ⟨A, hA⟩ : ∃ A, A = w.heap.size := ⟨_, rfl⟩
  have HAW : Hid (w.heap.size ≤ A) := Lib.hid (by omega)
  rw [← hA] at H1 H2 H3 H4 ⊢
  have H1 := Lib.hid H1
  have H2 := Lib.hid H2
  have H3 := Lib.hid H3
  have H4 : Hid (Blk wa (A + 1 + 1 + 1) (ints .i64 (tList H R 0)) 83) := Lib.hid H4
  have HE : Hid (Ext w wa) := Lib.hid HE
  clear hA HB
  go_wp2_with fail
  go_loopw [6] (fun iv wr => ∃ (i : Nat), i ≤ 17 ∧ iv = .int .i64 (i : Int) ∧ Blk wr A (ints .i64 H) 83 ∧ Blk wr (A + 1) (ints .i64 R) 83 ∧ Blk wr (A + 1 + 1) (ints .i64 (List.replicate 17 0)) 83 ∧ Blk wr (A + 1 + 1 + 1) (ints .i64 (tList H R i)) 83 ∧ Ext w wr) (fun iv _ => 17 - (intOf iv).toNat)
  case atStart => exact ⟨0, by omega, rfl, H1.out, H2.out, H3.out, H4.out, HE.out⟩
  case round =>
    clear H1 H2 H3 H4 HE
    obtain ⟨i, hi, rfl, hb1, hb2, hb3, hb4, hbel⟩ := hrel
    have i0 : (0 : Int) ≤ (i : Int) := Int.natCast_nonneg _
    have H1 := Lib.hid hb1
    have H2 := Lib.hid hb2
    have H3 := Lib.hid hb3
    have H4 := Lib.hid hb4
    have HE := Lib.hid hbel
    clear hb1 hb2 hb3 hb4 hbel
    by_cases hli : i < 17
    · have i1 : (i : Int) < 17 := by omega
      have HTB := Lib.hid (fun j => tRun_bound HH.out HR.out i j)
      go_wp2_with fail
      go_loopw [7, 8] (fun uv jv wq => ∃ (j : Nat), j ≤ i + 1 ∧ uv = .int .i64 (tRun H R i j) ∧ jv = .int .i64 (j : Int) ∧ Ext wr wq) (fun _ jv _ => i + 1 - (intOf jv).toNat)
      case atStart => exact ⟨0, by omega, rfl, rfl, Ext.refl _⟩
      case round =>
        obtain ⟨j, hj, rfl, rfl, hX⟩ := hrel
        have j0 : (0 : Int) ≤ (j : Int) := Int.natCast_nonneg _
        have HX := Lib.hid hX
        obtain ⟨b0, b1⟩ := HTB.out j
        clear hX
        by_cases hlj : j ≤ i
        · have j1 : (j : Int) ≤ (i : Int) := by omega
          have j2 : (j : Int) < 17 := by omega
          obtain ⟨d, hd⟩ : ∃ d, d = i - j := ⟨_, rfl⟩
          have d1 : (i : Int) - (j : Int) = (d : Int) := by omega
          have d2 : (0 : Int) ≤ (d : Int) := by omega
          have d3 : (d : Int) < 17 := by omega
          have c1 := digit_cell (ext_blk H1.out HX.out) (i := j) (by rw [HHL.out]; omega)
          have c2 := digit_cell (ext_blk H2.out HX.out) (i := d) (by rw [HRL.out]; omega)
          obtain ⟨e0, e1⟩ := HH.out j
          obtain ⟨g0, g1⟩ := HR.out d
          have HT : Hid (tRun H R i (j + 1) = tRun H R i j + H.getD j 0 * R.getD d 0) := Lib.hid (by rw [tRun, tCo_lo R hlj, hd])
          have b2 : tRun H R i j ≤ 1420492800 := by omega
          generalize H.getD j 0 = x at *
          generalize R.getD d 0 = y at *
          generalize tRun H R i j = u at *
          have p0 : 0 ≤ x * y := Int.mul_nonneg e0 g0
          have p1 : x * y ≤ 1024 * 255 := Int.mul_le_mul e1 g1 g0 (by omega)
          have p2 : x * y ≤ 261120 := p1
          have w1 : -9223372036854775808 ≤ x * y := by omega
          have w2 : x * y ≤ 9223372036854775807 := by omega
          have w3 : -9223372036854775808 ≤ u + x * y := by omega
          have w4 : u + x * y ≤ 9223372036854775807 := by omega
          clear b1 hd p1 p2 p0
          go_wp2_with fail
          go_region
          go_wp2_with fail
          go_roundw
          case rel => exact ⟨j + 1, by omega, by rw [HT.out], by go_num, HX.out.trans (Ext.drew _)⟩
          case measure => simp [intOf]; omega
        · have hji : j = i + 1 := by omega
          subst hji
          have j1 : ¬ (((i + 1 : Nat) : Int) ≤ (i : Int)) := by omega
          rw [show ((i + 1 : Nat) : Int) = (i : Int) + 1 from by omega] at j1 j0 ⊢
          clear b0 b1
          have H1 := Lib.hid (ext_blk H1.out HX.out)
          have H2 := Lib.hid (ext_blk H2.out HX.out)
          have H3 := Lib.hid (ext_blk H3.out HX.out)
          have H4 := Lib.hid (ext_blk H4.out HX.out)
          have HE := Lib.hid (HE.out.trans HX.out)
          clear HX
          go_wp2_with fail
          go_loopw [7, 9] (fun uv jv wq => ∃ (j : Nat), i + 1 ≤ j ∧ j ≤ 17 ∧ uv = .int .i64 (tRun H R i j) ∧ jv = .int .i64 (j : Int) ∧ Ext wr wq) (fun _ jv _ => 17 - (intOf jv).toNat)
          case atStart => exact ⟨i + 1, by omega, by omega, rfl, by rw [show ((i + 1 : Nat) : Int) = (i : Int) + 1 from by omega], Ext.refl _⟩
          case round =>
            clear j0 j1
            obtain ⟨j, hj1, hj2, rfl, rfl, hX⟩ := hrel
            have j0 : (0 : Int) ≤ (j : Int) := Int.natCast_nonneg _
            have HX := Lib.hid hX
            obtain ⟨b0, b1⟩ := HTB.out j
            clear hX
            by_cases hlj : j < 17
            · have j1 : (j : Int) < 17 := by omega
              obtain ⟨d, hd⟩ : ∃ d, d = i + 17 - j := ⟨_, rfl⟩
              have d1 : (i : Int) + 17 - (j : Int) = (d : Int) := by omega
              have d2 : (0 : Int) ≤ (d : Int) := by omega
              have d3 : (d : Int) < 17 := by omega
              have c1 := digit_cell (ext_blk H1.out HX.out) (i := j) (by rw [HHL.out]; omega)
              have c2 := digit_cell (ext_blk H2.out HX.out) (i := d) (by rw [HRL.out]; omega)
              obtain ⟨e0, e1⟩ := HH.out j
              obtain ⟨g0, g1⟩ := HR.out d
              have HT : Hid (tRun H R i (j + 1) = tRun H R i j + 320 * H.getD j 0 * R.getD d 0) := Lib.hid (by rw [tRun, tCo_hi R (by omega), hd, ← Int.mul_assoc, Int.mul_comm (H.getD j 0) 320])
              have b2 : tRun H R i j ≤ 1420492800 := by omega
              generalize H.getD j 0 = x at *
              generalize R.getD d 0 = y at *
              generalize tRun H R i j = u at *
              have p0 : 0 ≤ 320 * x * y := Int.mul_nonneg (by omega) g0
              have p1 : 320 * x * y ≤ 327680 * 255 := Int.mul_le_mul (by omega) g1 g0 (by omega)
              have p2 : 320 * x * y ≤ 83558400 := p1
              have w5 : -9223372036854775808 ≤ 320 * x := by omega
              have w6 : 320 * x ≤ 9223372036854775807 := by omega
              have w1 : -9223372036854775808 ≤ 320 * x * y := by omega
              have w2 : 320 * x * y ≤ 9223372036854775807 := by omega
              have w3 : -9223372036854775808 ≤ u + 320 * x * y := by omega
              have w4 : u + 320 * x * y ≤ 9223372036854775807 := by omega
              clear b1 hd p1 p2 p0
              go_wp2_with fail
              go_region
              go_wp2_with fail
              go_roundw
              case rel => exact ⟨j + 1, by omega, by omega, by rw [HT.out], by go_num, HX.out.trans (Ext.drew _)⟩
              case measure => simp [intOf]; omega
            · have hji : j = 17 := by omega
              subst hji
              rw [show ((17 : Nat) : Int) = 17 from rfl]
              have hb4 := ext_blk H4.out HX.out
              have tl := tList_length H R i
              have c1 := digit_cell hb4 (i := i) (by rw [tl]; omega)
              have f1 := hb4.free i
              have H1 := Lib.hid (ext_blk H1.out HX.out)
              have H2 := Lib.hid (ext_blk H2.out HX.out)
              have H3 := Lib.hid (ext_blk H3.out HX.out)
              have H4 := Lib.hid hb4
              have HE := Lib.hid (HE.out.trans HX.out)
              have HL1 : Hid (tList H R (i + 1) = (tList H R i).set i (tRun H R i 17)) := Lib.hid rfl
              clear hb4 tl b0 b1 HX
              generalize tRun H R i 17 = u at *
              go_wp2_with fail
              go_roundw
              case rel => exact ⟨i + 1, by omega, by go_num, H1.out.far (by simp; omega) _, H2.out.far (by simp; omega) _, H3.out.far (by simp) _, by rw [HL1.out]; exact H4.out.seti i _, Below.setCell HE.out (by have := HAW.out; simp; omega) _⟩
              case measure => simp [intOf]; omega
    · have hi17 : i = 17 := by omega
      subst hi17
      have HLE := Lib.hid (tList_le HH.out HR.out)
      have HTL := Lib.hid (tList_length H R 17)
      have HCAR := Lib.hid (fun w => carried17_any (tList H R 17) w HTL.out (fun i => ⟨(HLE.out i).1, Int.le_trans (HLE.out i).2 (by decide)⟩))
      have HQL : Hid ((qThree (tList H R 17)).length = 17) := Lib.hid (by rw [← qN_three, qN_length]; exact HTL.out)
      have HI0 := Lib.hid (d17_size HTL.out)
      have HI3 := Lib.hid (d17_size HQL.out)
      generalize hx : tList H R 17 = x at *
      have HXE := Lib.hid hx
      clear hx
      have HLo : Hid ((ints .i64 (qThree x)).length = (ints .i64 (List.replicate 17 0)).length) := Lib.hid (by rw [ints_length, HQL.out, ints_length, List.length_replicate])
      go_wp2_with (refine wpList_load_blk rfl _ _ rfl (A + 1 + 1 + 1) rfl _ _ _ _ H4.out Try.underlying83 HI0.out ?_)
      refine (HCAR.out wr).mono ?_
      rintro e w1 ⟨rfl, hb⟩
      have H3 := Lib.hid (ext_blk H3.out hb)
      have HE := Lib.hid (HE.out.trans hb)
      clear hb
      go_wp2_with (refine wpList_store_blk rfl _ _ _ rfl (A + 1 + 1) (ints .i64 (qThree x)) rfl rfl _ _ H3.out HLo.out HI3.out (ints_one _ _) ?_; intro w9 hb9 hg9)
      refine bodyPost_ret (result_blk rfl _ (A + 1 + 1) _ _ _ _ rfl hb9 Try.underlying83 HI3.out) rfl ?_
      exact ⟨by rw [HXE.out], ext_grown HE.out hg9 (by have := HAW.out; omega)⟩

end Go.Proofs.Ytflefkmpllbeeaa

/- The walk of the document's own whole number of seventeen digits. Each theorem names its own conditions. -/
namespace Go.Proofs.Ytflefkmpllbeeaa
open Go.RowKit
set_option linter.unusedVariables false
set_option linter.unusedSimpArgs false

theorem can17_le {h : List Int} (hc : Can17 h) : ∀ i, 0 ≤ h.getD i 0 ∧ h.getD i 0 ≤ 1099511627776 := fun i => by
  have := hc.digit i
  omega
theorem can17_three {h : List Int} (hc : Can17 h) : Can17 (qThree h) ∧ gV 256 (qThree h) % (pQ : Int) = gV 256 h % (pQ : Int) :=
  qThree_val h hc.1 (fun i => (hc.digit i).1) (by have := hc.range.2; unfold two130 at this; omega)
theorem wOut_length {h : List Int} (hc : Can17 h) : (wOut h).length = 17 := (wOut_val hc).1

set_option maxRecDepth 100000 in
set_option maxHeartbeats 16000000 in
theorem whole17_any (H : List Int) (w : World) (hc : Can17 H) :
    Calls Try.prog 51 #[.agg (ints .i64 H).toArray] w fun e w' => e = .returned (.agg (ints .i64 (wOut (qThree H))).toArray) ∧ Below w.heap.size w w' := by
  have HL := Lib.hid hc.1
  have HCAR := Lib.hid (fun w => carried17_any H w hc.1 (can17_le hc))
  have HC3 := Lib.hid (can17_three hc).1
  have HB := Lib.hid (boxes2 w (ints .i64 H) (ints .i64 (List.replicate 17 0)) 83 83)
  have HI0 := Lib.hid (d17_size hc.1)
  have HI3 := Lib.hid (d17_size (can17_three hc).1.1)
  have HLH : Hid ((ints .i64 (qThree H)).length = (ints .i64 H).length) := Lib.hid (by rw [ints_length, ints_length, (can17_three hc).1.1, hc.1])
  clear hc
  go_enter Try.func51, Try.ntmps51
  go_upto_region 1 with (fail)
  obtain ⟨H1, H2, HE⟩ := HB.out
  change Code.wp _ _ _ _ ((w.alloc (.cells (ints .i64 H).toArray 83)).alloc (.cells (ints .i64 (List.replicate 17 0)).toArray 83))
  generalize (w.alloc (.cells (ints .i64 H).toArray 83)).alloc (.cells (ints .i64 (List.replicate 17 0)).toArray 83) = wa at *
  obtain ⟨A, hA⟩ : ∃ A, A = w.heap.size := ⟨_, rfl⟩
  have HAW : Hid (w.heap.size ≤ A) := Lib.hid (by omega)
  rw [← hA] at H1 H2 ⊢
  have H1 := Lib.hid H1
  have H2 := Lib.hid H2
  have HE : Hid (Ext w wa) := Lib.hid HE
  clear hA HB
  go_wp2_with (refine wpList_load_blk rfl _ _ rfl A rfl _ _ _ _ H1.out Try.underlying83 HI0.out ?_)
  refine (HCAR.out wa).mono ?_
  rintro e w1 ⟨rfl, hb⟩
  have H1 := Lib.hid (ext_blk H1.out hb)
  have H2 := Lib.hid (ext_blk H2.out hb)
  have HE := Lib.hid (HE.out.trans hb)
  clear hb HCAR
  generalize hqh : qThree H = h at *
  have HQH := Lib.hid hqh
  clear hqh
  go_upto_region 2 with (refine wpList_store_blk rfl _ _ _ rfl A (ints .i64 h) rfl rfl _ _ H1.out HLH.out HI3.out (ints_one _ _) ?_; intro w2 hb2 hg2)
  have H2 := Lib.hid (H2.out.grown hg2 (fun e => by have h := Option.some.inj e; omega))
  have HE := Lib.hid (ext_grown HE.out hg2 HAW.out)
  have H1 := Lib.hid hb2
  clear hb2 hg2
  obtain ⟨G, hG⟩ : ∃ G, G = w2.heap.size := ⟨_, rfl⟩
  have HGA : Hid (A + 1 < G) := Lib.hid (by have := H2.out.lt; omega)
  have HZ := Lib.hid (Blk.made w2 (ints .i64 (List.replicate 17 0)) 83)
  have HXA := Ext.alloc w2 (.cells (ints .i64 (List.replicate 17 0)).toArray 83)
  have H1a := Lib.hid (ext_blk H1.out HXA)
  have H2a := Lib.hid (ext_blk H2.out HXA)
  have HEa := Lib.hid (HE.out.trans HXA)
  have HS := Lib.hid HE.out.size
  have HLZ : Hid ((ints .i64 h).length = (ints .i64 (List.replicate 17 0)).length) := Lib.hid (by rw [ints_length, HC3.out.1, ints_length, List.length_replicate])
  clear HXA
  go_upto_region 3 with (first | (refine wpList_load_blk rfl _ _ rfl A rfl _ _ _ _ H1.out Try.underlying83 HI3.out ?_) | (refine wpList_store_blk rfl _ _ _ rfl w2.heap.size (ints .i64 h) rfl rfl _ _ HZ.out HLZ.out HI3.out (ints_one _ _) ?_; intro w3 hb3 hg3))
  have H1 := Lib.hid (H1a.out.grown hg3 (fun e => by have h := Option.some.inj e; have := HGA.out; omega))
  have H2 := Lib.hid (H2a.out.grown hg3 (fun e => by have h := Option.some.inj e; have := HGA.out; omega))
  have HE := Lib.hid (ext_grown HEa.out hg3 HS.out)
  have H3 := Lib.hid hb3
  have HGW : Hid (w.heap.size ≤ G) := Lib.hid (by rw [hG]; exact HS.out)
  rw [← hG] at H3 ⊢
  clear hb3 hg3 hG HZ H1a H2a HEa HS
  go_wp2_with fail
  go_loopw [4, 5] (fun uv iv wr => ∃ (i : Nat), i ≤ 17 ∧ uv = .int .i64 (wRun h i).2 ∧ iv = .int .i64 (i : Int) ∧ Blk wr A (ints .i64 h) 83 ∧ Blk wr (A + 1) (ints .i64 (List.replicate 17 0)) 83 ∧ Blk wr G (ints .i64 (wRun h i).1) 83 ∧ Ext w wr) (fun _ iv _ => 17 - (intOf iv).toNat)
  case atStart => exact ⟨0, by omega, rfl, rfl, H1.out, H2.out, H3.out, HE.out⟩
  case round =>
    clear H1 H2 H3 HE
    obtain ⟨i, hi, rfl, rfl, hb1, hb2, hb3, hbel⟩ := hrel
    have i0 : (0 : Int) ≤ (i : Int) := Int.natCast_nonneg _
    have hrl : (wRun h i).1.length = 17 := by rw [wRun_length]; exact HC3.out.1
    obtain ⟨hu0, hu1⟩ := wRun_u h HC3.out.digit i
    have H1 := Lib.hid hb1
    have H2 := Lib.hid hb2
    have H3 := Lib.hid hb3
    have HE := Lib.hid hbel
    by_cases hli : i < 17
    · have i1 : (i : Int) < 17 := by omega
      have c1 := digit_cell hb3 (i := i) (by rw [hrl]; omega)
      have f1 := hb3.free i
      have hz := HC3.out.digit i
      have hfar := wRun_far h i i (Nat.le_refl _)
      have HS1 : Hid ((wRun h (i + 1)).1 = (wRun h i).1.set i (((wRun h i).2 + (wRun h i).1.getD i 0) % 256)) := Lib.hid rfl
      have HS2 : Hid ((wRun h (i + 1)).2 = ((wRun h i).2 + (wRun h i).1.getD i 0) / 256) := Lib.hid rfl
      rw [← hfar] at hz
      clear hb1 hb2 hb3 hbel hfar
      generalize (wRun h i).1.getD i 0 = z at *
      generalize (wRun h i).2 = u at *
      obtain ⟨z0, z1⟩ := hz
      have a1 := and_i64_255 (u + z) (by omega) (by omega)
      go_wp2_with fail
      go_roundw
      case rel =>
        refine ⟨i + 1, by omega, by rw [HS2.out], by go_num, H1.out.far (by have := HGA.out; simp; omega) _, H2.out.far (by have := HGA.out; simp; omega) _, ?_, Below.setCell HE.out (by have := HGW.out; simp; omega) _⟩
        rw [HS1.out]
        exact H3.out.seti i _
      case measure => simp [intOf]; omega
    · have hi17 : i = 17 := by omega
      subst hi17
      have c1 := digit_cell hb3 (i := 16) (by rw [hrl]; omega)
      have f1 := hb3.free 16
      have hsm := wRun_small h HC3.out.1 17 (Nat.le_refl _) 16 (by omega)
      have HW : Hid (wOut h = if 4 ≤ (wRun h 17).1.getD 16 0 then (wRun h 17).1.set 16 ((wRun h 17).1.getD 16 0 - 4) else h) := Lib.hid rfl
      have HWL := Lib.hid (wOut_length HC3.out)
      clear hb1 hb2 hb3 hbel
      have HRL := Lib.hid hrl
      generalize (wRun h 17).1 = rr at *
      clear hu0 hu1
      generalize (wRun h 17).2 = u at *
      have HGS : Hid (∀ z : Int, Blk (wr.setCell ⟨G, 16, none⟩ (.int .i64 z)) G (ints .i64 (rr.set 16 z)) 83) := Lib.hid (fun z => H3.out.seti 16 z)
      generalize hzz : rr.getD 16 0 = z at *
      obtain ⟨z0, z1⟩ := hsm
      by_cases h4 : 4 ≤ z
      · have hw : wOut h = rr.set 16 (z - 4) := by rw [HW.out, if_pos h4]
        obtain ⟨o, ho⟩ : ∃ o, o = wOut h := ⟨_, rfl⟩
        have HO := Lib.hid ho
        have HG := Lib.hid (HGS.out (z - 4))
        rw [← hw, ← ho] at HG
        rw [← ho] at HWL
        have H2n := Lib.hid (H2.out.far (a := ⟨G, 16, none⟩) (by have := HGA.out; simp; omega) (.int .i64 (z - 4)))
        have HEn : Hid (Ext w (wr.setCell ⟨G, 16, none⟩ (.int .i64 (z - 4)))) := Lib.hid (Below.setCell HE.out (by have := HGW.out; simp; omega) _)
        have HIo := Lib.hid (d17_size HWL.out)
        have HLo : Hid ((ints .i64 o).length = (ints .i64 (List.replicate 17 0)).length) := Lib.hid (by rw [ints_length, HWL.out, ints_length, List.length_replicate])
        clear hw ho hzz
        go_wp2_with (first | (refine wpList_load_blk rfl _ _ rfl G rfl _ _ _ _ HG.out Try.underlying83 HIo.out ?_) | (refine wpList_store_blk rfl _ _ _ rfl (A + 1) (ints .i64 o) rfl rfl _ _ H2n.out HLo.out HIo.out (ints_one _ _) ?_; intro w9 hb9 hg9))
        refine bodyPost_ret (result_blk rfl _ (A + 1) _ _ _ _ rfl hb9 Try.underlying83 HIo.out) rfl ?_
        exact ⟨by rw [HQH.out, HO.out], ext_grown HEn.out hg9 (by have := HAW.out; omega)⟩
      · have hw : wOut h = h := by rw [HW.out, if_neg h4]
        have HO := Lib.hid hw
        have z3 : z < 4 := by omega
        clear hw hzz
        go_wp2_with (first | (refine wpList_load_blk rfl _ _ rfl A rfl _ _ _ _ H1.out Try.underlying83 HI3.out ?_) | (refine wpList_store_blk rfl _ _ _ rfl (A + 1) (ints .i64 h) rfl rfl _ _ H2.out HLZ.out HI3.out (ints_one _ _) ?_; intro w9 hb9 hg9))
        refine bodyPost_ret (result_blk rfl _ (A + 1) _ _ _ _ rfl hb9 Try.underlying83 HI3.out) rfl ?_
        exact ⟨by rw [HQH.out, HO.out], ext_grown HE.out hg9 (by have := HAW.out; omega)⟩

end Go.Proofs.Ytflefkmpllbeeaa

/- The walk of the document's own Poly1305. Each theorem names its own conditions. -/
namespace Go.Proofs.Ytflefkmpllbeeaa
open Go.RowKit
set_option linter.unusedVariables false
set_option linter.unusedSimpArgs false

theorem Try.arr43 : (Try.prog.info? 43).map (·.size) = some 16 := by kernel_rfl
theorem tag_size {l : List UInt8} (h : l.length = 16) : (Try.prog.info? 43).map (·.size) = some (l.map bval).length := by rw [List.length_map, h]; exact Try.arr43
theorem and_i64_15 (a : Int) (h1 : -9223372036854775808 ≤ a) (h2 : a ≤ 9223372036854775807) : bits .and .i64 a 15 = a % 16 := by
  have h : (BitVec.ofInt 64 15).toNat = 2 ^ 4 - 1 := by decide
  have key : (BitVec.ofInt 64 a &&& BitVec.ofInt 64 15).toNat = (a % ((2 ^ 64 : Nat) : Int)).toNat % 2 ^ 4 := by
    rw [BitVec.toNat_and, BitVec.toNat_ofInt, h, Nat.and_two_pow_sub_one_eq_mod]
  show IntKind.i64.wrap ((BitVec.ofInt 64 a &&& BitVec.ofInt 64 15).toNat : Nat) = _
  rw [key, IntKind.wrap_i64]
  omega
theorem and_252_fin : ∀ n : Fin 256, bits .and .i64 (n.val : Int) 252 = (n.val : Int) / 4 * 4 := by decide +kernel
theorem and_i64_252 (a : Int) (h1 : 0 ≤ a) (h2 : a ≤ 255) : bits .and .i64 a 252 = a / 4 * 4 := by
  obtain ⟨n, rfl⟩ : ∃ n : Nat, a = (n : Int) := ⟨a.toNat, by omega⟩
  exact and_252_fin ⟨n, by omega⟩
theorem can17_zero : Can17 (List.replicate 17 0) := ⟨by simp, fun i hi => by rw [getD_eq (by simp; omega), List.getElem_replicate]; omega, by decide, by decide⟩
theorem can17_255 {h : List Int} (hc : Can17 h) : ∀ i, 0 ≤ h.getD i 0 ∧ h.getD i 0 ≤ 255 := fun i => by
  have := hc.digit i
  omega

set_option maxRecDepth 100000 in
set_option maxHeartbeats 16000000 in
theorem rPoly_any (kb b : List UInt8) (bv : Value) (w : World) (hk : kb.length = 32) (hb : Row1 w bv (b.map bval)) (hbl : b.length ≤ 1099511627776) :
    Calls Try.prog 41 #[.agg (kb.map bval).toArray, bv] w fun e w' => e = .returned (.agg ((polyTag kb b).map bval).toArray) ∧ Below w.heap.size w w' := by
  have HKL := Lib.hid hk
  have HBL := Lib.hid hbl
  have HR := Lib.hid hb
  obtain ⟨ab, cb, rfl, r1, r2, _, r4⟩ := id hb
  rw [List.length_map] at r1 HR ⊢
  unfold maxLen at r2
  have HC := Lib.hid r4
  have HB := Lib.hid (boxes4 w (kb.map bval) (ints .u8 (List.replicate 16 0)) (ints .i64 (List.replicate 17 0)) (ints .i64 (List.replicate 17 0)) 23 43 83 83)
  clear hk hb hbl r4
  go_enter Try.func41, Try.ntmps41
  go_upto_region 3 with (fail)
  obtain ⟨H1, H2, H3, H4, HE⟩ := HB.out
  change Code.wp _ _ _ _ ((((w.alloc (.cells (kb.map bval).toArray 23)).alloc (.cells (ints .u8 (List.replicate 16 0)).toArray 43)).alloc (.cells (ints .i64 (List.replicate 17 0)).toArray 83)).alloc (.cells (ints .i64 (List.replicate 17 0)).toArray 83))
  generalize (((w.alloc (.cells (kb.map bval).toArray 23)).alloc (.cells (ints .u8 (List.replicate 16 0)).toArray 43)).alloc (.cells (ints .i64 (List.replicate 17 0)).toArray 83)).alloc (.cells (ints .i64 (List.replicate 17 0)).toArray 83) = wa at *
  obtain ⟨A, hA⟩ : ∃ A, A = w.heap.size := ⟨_, rfl⟩
  have HAW : Hid (w.heap.size ≤ A) := Lib.hid (by omega)
  rw [← hA] at H1 H2 H3 H4 ⊢
  have H1 := Lib.hid H1
  have H2 := Lib.hid H2
  have H3 : Hid (Blk wa (A + 1 + 1) (ints .i64 (rA kb 0)) 83) := Lib.hid H3
  have H4 := Lib.hid H4
  have HE : Hid (Ext w wa) := Lib.hid HE
  clear hA HB
  go_wp2_with fail
  go_loopw [7] (fun iv wr => ∃ (k : Nat), k ≤ 16 ∧ iv = .int .i64 ((k : Int)) ∧ Blk wr A (kb.map bval) 23 ∧ Blk wr (A + 1) (ints .u8 (List.replicate 16 0)) 43 ∧ Blk wr (A + 1 + 1) (ints .i64 (rA kb k)) 83 ∧ Blk wr (A + 1 + 1 + 1) (ints .i64 (List.replicate 17 0)) 83 ∧ Ext w wr) (fun iv _ => 16 - (intOf iv).toNat)
  case atStart => exact ⟨0, by omega, rfl, H1.out, H2.out, H3.out, H4.out, HE.out⟩
  case round =>
    clear H1 H2 H3 H4 HE
    obtain ⟨k, hk, rfl, hb1, hb2, hb3, hb4, hbel⟩ := hrel
    have k0 : (0 : Int) ≤ (k : Int) := Int.natCast_nonneg _
    have H1 := Lib.hid hb1
    have H2 := Lib.hid hb2
    have H3 := Lib.hid hb3
    have H4 := Lib.hid hb4
    have HE := Lib.hid hbel
    by_cases hlk : k < 16
    · have k1 : (k : Int) < 16 := by omega
      have k2 : (k : Int) < 32 := by omega
      have k3 : (k : Int) < 17 := by omega
      have c1 := hb1.cell k
      rw [bval_get (by rw [HKL.out]; omega)] at c1
      have c2 := digit_cell hb3 (i := k) (by rw [rA_length]; omega)
      have f2 := hb3.free k
      have HS : Hid (rA kb (k + 1) = (rA kb k).set k ((kb.getD k 0).toNat : Int)) := Lib.hid rfl
      have y0 := (kb.getD k 0).toNat_lt
      clear hb1 hb2 hb3 hb4 hbel
      change wr.cell? ⟨A, k, none⟩ = some (.int .u8 ((kb.getD k 0).toNat : Int)) at c1
      generalize (kb.getD k 0).toNat = y at *
      have y1 : (y : Int) ≤ 255 := by omega
      have y2 : (0 : Int) ≤ (y : Int) := by omega
      go_wp2_with fail
      go_roundw
      case rel => exact ⟨k + 1, by omega, by go_num, H1.out.far (by simp; omega) _, H2.out.far (by simp) _, by rw [HS.out]; exact H3.out.seti k _, H4.out.far (by simp) _, Below.setCell HE.out (by have := HAW.out; simp; omega) _⟩
      case measure => simp [intOf]; omega
    · have hk16 : k = 16 := by omega
      subst hk16
      rw [show ((16 : Nat) : Int) = 16 from rfl]
      clear hb1 hb2 hb3 hb4 hbel
      have H3 : Hid (Blk wr (A + 1 + 1) (ints .i64 (rB kb 0)) 83) := Lib.hid H3.out
      go_wp2_with fail
      go_loopw [8] (fun iv wr => ∃ (k : Nat), k ≤ 4 ∧ iv = .int .i64 (3 + 4 * (k : Int)) ∧ Blk wr A (kb.map bval) 23 ∧ Blk wr (A + 1) (ints .u8 (List.replicate 16 0)) 43 ∧ Blk wr (A + 1 + 1) (ints .i64 (rB kb k)) 83 ∧ Blk wr (A + 1 + 1 + 1) (ints .i64 (List.replicate 17 0)) 83 ∧ Ext w wr) (fun iv _ => 20 - (intOf iv).toNat)
      case atStart => exact ⟨0, by omega, rfl, H1.out, H2.out, H3.out, H4.out, HE.out⟩
      case round =>
        clear H1 H2 H3 H4 HE
        obtain ⟨k, hk, rfl, hb1, hb2, hb3, hb4, hbel⟩ := hrel
        have k0 : (0 : Int) ≤ (k : Int) := Int.natCast_nonneg _
        have H1 := Lib.hid hb1
        have H2 := Lib.hid hb2
        have H3 := Lib.hid hb3
        have H4 := Lib.hid hb4
        have HE := Lib.hid hbel
        by_cases hlk : k < 4
        · have k1 : 3 + 4 * (k : Int) < 16 := by omega
          have k2 : (0 : Int) ≤ 3 + 4 * (k : Int) := by omega
          have k3 : 3 + 4 * (k : Int) < 17 := by omega
          have kn : (3 + 4 * (k : Int)).toNat = 3 + 4 * k := by omega
          have c1 := digit_cell hb3 (i := 3 + 4 * k) (by rw [rB_length]; omega)
          have f1 := hb3.free (3 + 4 * k)
          have hd := rB_digit kb k (3 + 4 * k) (by omega)
          have HS : Hid (rB kb (k + 1) = (rB kb k).set (3 + 4 * k) ((rB kb k).getD (3 + 4 * k) 0 % 16)) := Lib.hid rfl
          clear hb1 hb2 hb3 hb4 hbel
          generalize hz : (rB kb k).getD (3 + 4 * k) 0 = z at *
          clear hz
          obtain ⟨z0, z1⟩ := hd
          have a1 := and_i64_15 z (by omega) (by omega)
          go_wp2_with fail
          go_roundw
          case rel => exact ⟨k + 1, by omega, by go_num, H1.out.far (by simp; omega) _, H2.out.far (by simp) _, by rw [HS.out]; exact H3.out.seti _ _, H4.out.far (by simp) _, Below.setCell HE.out (by have := HAW.out; simp; omega) _⟩
          case measure => simp [intOf]; omega
        · have hk4 : k = 4 := by omega
          subst hk4
          rw [show ((4 : Nat) : Int) = 4 from rfl]
          rw [show (3 : Int) + 4 * 4 = 19 from rfl]
          clear hb1 hb2 hb3 hb4 hbel
          have H3 : Hid (Blk wr (A + 1 + 1) (ints .i64 (rC kb 0)) 83) := Lib.hid H3.out
          go_wp2_with fail
          go_loopw [9] (fun iv wr => ∃ (k : Nat), k ≤ 3 ∧ iv = .int .i64 (4 + 4 * (k : Int)) ∧ Blk wr A (kb.map bval) 23 ∧ Blk wr (A + 1) (ints .u8 (List.replicate 16 0)) 43 ∧ Blk wr (A + 1 + 1) (ints .i64 (rC kb k)) 83 ∧ Blk wr (A + 1 + 1 + 1) (ints .i64 (List.replicate 17 0)) 83 ∧ Ext w wr) (fun iv _ => 20 - (intOf iv).toNat)
          case atStart => exact ⟨0, by omega, rfl, H1.out, H2.out, H3.out, H4.out, HE.out⟩
          case round =>
            clear H1 H2 H3 H4 HE
            obtain ⟨k, hk, rfl, hb1, hb2, hb3, hb4, hbel⟩ := hrel
            have k0 : (0 : Int) ≤ (k : Int) := Int.natCast_nonneg _
            have H1 := Lib.hid hb1
            have H2 := Lib.hid hb2
            have H3 := Lib.hid hb3
            have H4 := Lib.hid hb4
            have HE := Lib.hid hbel
            by_cases hlk : k < 3
            · have k1 : 4 + 4 * (k : Int) < 16 := by omega
              have k2 : (0 : Int) ≤ 4 + 4 * (k : Int) := by omega
              have k3 : 4 + 4 * (k : Int) < 17 := by omega
              have kn : (4 + 4 * (k : Int)).toNat = 4 + 4 * k := by omega
              have c1 := digit_cell hb3 (i := 4 + 4 * k) (by rw [rC_length]; omega)
              have f1 := hb3.free (4 + 4 * k)
              have hd := rC_digit kb k (4 + 4 * k) (by omega)
              have HS : Hid (rC kb (k + 1) = (rC kb k).set (4 + 4 * k) ((rC kb k).getD (4 + 4 * k) 0 / 4 * 4)) := Lib.hid rfl
              clear hb1 hb2 hb3 hb4 hbel
              generalize hz : (rC kb k).getD (4 + 4 * k) 0 = z at *
              clear hz
              obtain ⟨z0, z1⟩ := hd
              have a1 := and_i64_252 z z0 z1
              go_wp2_with fail
              go_roundw
              case rel => exact ⟨k + 1, by omega, by go_num, H1.out.far (by simp; omega) _, H2.out.far (by simp) _, by rw [HS.out]; exact H3.out.seti _ _, H4.out.far (by simp) _, Below.setCell HE.out (by have := HAW.out; simp; omega) _⟩
              case measure => simp [intOf]; omega
            · have hk3 : k = 3 := by omega
              subst hk3
              rw [show ((3 : Nat) : Int) = 3 from rfl]
              rw [show (4 : Int) + 4 * 3 = 16 from rfl]
              clear hb1 hb2 hb3 hb4 hbel
              clear hk k0 hlk
              have HRL := Lib.hid (rC_length kb 3)
              have HRD := Lib.hid (fun i => rC_digit kb 3 i (by omega))
              have HRV := Lib.hid (rC_val kb)
              generalize rC kb 3 = r at *
              go_wp2_with fail
              go_loopw [10] (fun iv wr => ∃ (n f : Nat) (Hn : List Int), f = 16 * n ∧ n ≤ (b.length + 15) / 16 ∧ iv = .int .i64 (f : Int) ∧ Can17 Hn ∧ gV 256 Hn % (pQ : Int) = pAcc (pR kb) b n ∧ Blk wr A (kb.map bval) 23 ∧ Blk wr (A + 1) (ints .u8 (List.replicate 16 0)) 43 ∧ Blk wr (A + 1 + 1) (ints .i64 (r)) 83 ∧ Blk wr (A + 1 + 1 + 1) (ints .i64 (Hn)) 83 ∧ Ext w wr) (fun iv _ => b.length + 16 - (intOf iv).toNat)
              case atStart => exact ⟨0, 0, _, rfl, by omega, rfl, can17_zero, by rw [gV_zeros]; rfl, H1.out, H2.out, H3.out, H4.out, HE.out⟩
              case round =>
                clear H1 H2 H3 H4 HE
                obtain ⟨n, f, Hn, hf, hn, rfl, hcan, hacc, hb1, hb2, hb3, hb4, hbel⟩ := hrel
                have f0 : (0 : Int) ≤ (f : Int) := Int.natCast_nonneg _
                have HF := Lib.hid hf
                have HN := Lib.hid hn
                have HCAN := Lib.hid hcan
                have HACC := Lib.hid hacc
                have H1 := Lib.hid hb1
                have H2 := Lib.hid hb2
                have H3 := Lib.hid hb3
                have H4 := Lib.hid hb4
                have HE := Lib.hid hbel
                clear hf hn hcan hacc hb1 hb2 hb3 hb4 hbel
                by_cases hlf : f < b.length
                · have f1 : (f : Int) < (b.length : Int) := by omega
                  have HXA := Ext.alloc wr (.cells (ints .i64 (List.replicate 17 0)).toArray 83)
                  obtain ⟨C, hC⟩ : ∃ C, C = wr.heap.size := ⟨_, rfl⟩
                  have HCA : Hid (A + 1 + 1 + 1 < C) := Lib.hid (by have := H4.out.lt; omega)
                  have H5 : Hid (Blk (wr.alloc (.cells (ints .i64 (List.replicate 17 0)).toArray 83)) C (ints .i64 (cA b n 0)) 83) := Lib.hid (by rw [hC]; exact Blk.made wr (ints .i64 (List.replicate 17 0)) 83)
                  have H1 := Lib.hid (ext_blk H1.out HXA)
                  have H2 := Lib.hid (ext_blk H2.out HXA)
                  have H3 := Lib.hid (ext_blk H3.out HXA)
                  have H4 := Lib.hid (ext_blk H4.out HXA)
                  have HE := Lib.hid (HE.out.trans HXA)
                  clear HXA
                  go_upto_region 19 with (fail)
                  change Code.wp _ _ _ _ (wr.alloc (.cells (ints .i64 (List.replicate 17 0)).toArray 83))
                  rw [← hC]
                  clear hC
                  generalize wr.alloc (.cells (ints .i64 (List.replicate 17 0)).toArray 83) = wc at *
                  go_upto_if 59 with (fail)
                  obtain ⟨m, hm⟩ : ∃ m, m = min 16 (b.length - f) := ⟨_, rfl⟩
                  go_cut [12] from 54 to 59 (fun v wq => v = .int .i64 (m : Int) ∧ wq = wc)
                  case first =>
                    by_cases h16 : 16 < b.length - f
                    · have g1 : (16 : Int) < (b.length : Int) - (f : Int) := by omega
                      have hm16 : m = 16 := by omega
                      go_wp2_with fail
                      go_meet
                      exact ⟨by rw [hm16]; rfl, rfl⟩
                    · have g1 : ¬ (16 : Int) < (b.length : Int) - (f : Int) := by omega
                      have hm16 : (m : Int) = (b.length : Int) - (f : Int) := by omega
                      go_wp2_with fail
                      go_meet
                      exact ⟨by rw [hm16], rfl⟩
                  case rest =>
                    obtain ⟨rfl, rfl⟩ := hcut
                    have m0 : (0 : Int) ≤ (m : Int) := Int.natCast_nonneg _
                    have HM : Hid (m = min 16 (b.length - 16 * n)) := Lib.hid (by rw [hm, HF.out])
                    have m1 : m ≤ 16 := by omega
                    have hfm : f + m ≤ b.length := by omega
                    clear hm
                    obtain ⟨g, og, rfl, hgs, hgc⟩ := HC.out (by intro e; have h := congrArg List.length e; rw [List.length_map] at h; simp only [List.length_nil] at h; omega)
                    have HGS := Lib.hid hgs
                    have HGC := Lib.hid hgc
                    clear hgs hgc
                    go_wp2_with fail
                    go_loopw [13] (fun iv wr => ∃ (i : Nat), i ≤ m ∧ iv = .int .i64 (i : Int) ∧ Blk wr C (ints .i64 (cA b n i)) 83 ∧ Blk wr A (kb.map bval) 23 ∧ Blk wr (A + 1) (ints .u8 (List.replicate 16 0)) 43 ∧ Blk wr (A + 1 + 1) (ints .i64 (r)) 83 ∧ Blk wr (A + 1 + 1 + 1) (ints .i64 (Hn)) 83 ∧ Ext w wr) (fun iv _ => m - (intOf iv).toNat)
                    case atStart => exact ⟨0, by omega, rfl, H5.out, H1.out, H2.out, H3.out, H4.out, HE.out⟩
                    case round =>
                      clear H1 H2 H3 H4 H5 HE
                      obtain ⟨i, hi, rfl, hb5, hb1, hb2, hb3, hb4, hbel⟩ := hrel
                      have i0 : (0 : Int) ≤ (i : Int) := Int.natCast_nonneg _
                      have H1 := Lib.hid hb1
                      have H2 := Lib.hid hb2
                      have H3 := Lib.hid hb3
                      have H4 := Lib.hid hb4
                      have H5 := Lib.hid hb5
                      have HE := Lib.hid hbel
                      by_cases hlm : i < m
                      · have i1 : (i : Int) < (m : Int) := by omega
                        have i2 : (i : Int) < 17 := by omega
                        obtain ⟨q, hq⟩ : ∃ q, q = f + i := ⟨_, rfl⟩
                        have hql : q < b.length := by omega
                        have q1 : (f : Int) + (i : Int) = (q : Int) := by omega
                        have q2 : (q : Int) < (b.length : Int) := by omega
                        have q3 : (0 : Int) ≤ (q : Int) := by omega
                        have c1 : wr.cell? ⟨g, og + q, none⟩ = some (.int .u8 ((b.getD q 0).toNat : Int)) := by
                          have h := HGC.out q (by rw [List.length_map]; exact hql)
                          rw [bval_get hql] at h
                          rw [← h]
                          exact HE.out.cell (p := ⟨g, og + q, none⟩) HGS.out
                        have c2 := digit_cell hb5 (i := i) (by rw [cA_length]; omega)
                        have f2 := hb5.free i
                        have HS : Hid (cA b n (i + 1) = (cA b n i).set i ((b.getD q 0).toNat : Int)) := Lib.hid (by rw [hq, HF.out]; rfl)
                        have y0 := (b.getD q 0).toNat_lt
                        clear hb1 hb2 hb3 hb4 hb5 hbel hq
                        generalize (b.getD q 0).toNat = y at *
                        have y1 : (y : Int) ≤ 255 := by omega
                        have y2 : (0 : Int) ≤ (y : Int) := by omega
                        go_wp2_with fail
                        go_roundw
                        case rel => exact ⟨i + 1, by omega, by go_num, by rw [HS.out]; exact H5.out.seti i _, H1.out.far (by have := HCA.out; simp; omega) _, H2.out.far (by have := HCA.out; simp; omega) _, H3.out.far (by have := HCA.out; simp; omega) _, H4.out.far (by have := HCA.out; simp; omega) _, Below.setCell HE.out (by have := HAW.out; have := HCA.out; simp; omega) _⟩
                        case measure => simp [intOf]; omega
                      · have him : i = m := by omega
                        subst him
                        clear hb1 hb2 hb3 hb4 hb5 hbel
                        have i3 : (i : Int) < 17 := by omega
                        have c2 := digit_cell H5.out (i := i) (by rw [cA_length]; omega)
                        have f2 := H5.out.free i
                        obtain ⟨cc, hcc⟩ : ∃ cc, cc = (cA b n i).set i 1 := ⟨_, rfl⟩
                        have HCC : Hid (gV 256 cc = pBlk b n) := Lib.hid (by
                          rw [hcc]
                          have h := gV_blk b n (by have := HF.out; omega)
                          rw [← HM.out] at h
                          exact h)
                        have HCL : Hid (cc.length = 17) := Lib.hid (by rw [hcc, List.length_set, cA_length])
                        have HCD := Lib.hid (show ∀ j, 0 ≤ cc.getD j 0 ∧ cc.getD j 0 ≤ 255 from fun j => by rw [hcc]; exact blk_digit b n i m1 j)
                        have H5n : Hid (Blk (wr.setCell ⟨C, i, none⟩ (.int .i64 1)) C (ints .i64 cc) 83) := Lib.hid (by rw [hcc]; exact H5.out.seti i 1)
                        have H1n := Lib.hid (H1.out.far (a := ⟨C, i, none⟩) (by have := HCA.out; simp; omega) (.int .i64 1))
                        have H2n := Lib.hid (H2.out.far (a := ⟨C, i, none⟩) (by have := HCA.out; simp; omega) (.int .i64 1))
                        have H3n := Lib.hid (H3.out.far (a := ⟨C, i, none⟩) (by have := HCA.out; simp; omega) (.int .i64 1))
                        have H4n : Hid (Blk (wr.setCell ⟨C, i, none⟩ (.int .i64 1)) (A + 1 + 1 + 1) (ints .i64 (sA Hn cc 0)) 83) := Lib.hid (H4.out.far (a := ⟨C, i, none⟩) (by have := HCA.out; simp; omega) (.int .i64 1))
                        have HEn : Hid (Ext w (wr.setCell ⟨C, i, none⟩ (.int .i64 1))) := Lib.hid (Below.setCell HE.out (by have := HAW.out; have := HCA.out; simp; omega) _)
                        go_upto_region 27 with (fail)
                        clear H1 H2 H3 H4 H5 HE c2 f2 hcc
                        generalize wr.setCell ⟨C, i, none⟩ (.int .i64 1) = wd at *
                        go_wp2_with fail
                        go_loopw [14] (fun iv wr => ∃ (j : Nat), j ≤ 17 ∧ iv = .int .i64 (j : Int) ∧ Blk wr C (ints .i64 cc) 83 ∧ Blk wr A (kb.map bval) 23 ∧ Blk wr (A + 1) (ints .u8 (List.replicate 16 0)) 43 ∧ Blk wr (A + 1 + 1) (ints .i64 (r)) 83 ∧ Blk wr (A + 1 + 1 + 1) (ints .i64 (sA Hn cc j)) 83 ∧ Ext w wr) (fun iv _ => 17 - (intOf iv).toNat)
                        case atStart => exact ⟨0, by omega, rfl, H5n.out, H1n.out, H2n.out, H3n.out, H4n.out, HEn.out⟩
                        case round =>
                          clear H1n H2n H3n H4n H5n HEn
                          obtain ⟨j, hj, rfl, hb5, hb1, hb2, hb3, hb4, hbel⟩ := hrel
                          have j0 : (0 : Int) ≤ (j : Int) := Int.natCast_nonneg _
                          have H1 := Lib.hid hb1
                          have H2 := Lib.hid hb2
                          have H3 := Lib.hid hb3
                          have H4 := Lib.hid hb4
                          have H5 := Lib.hid hb5
                          have HE := Lib.hid hbel
                          have HSL : Hid ((sA Hn cc j).length = 17) := Lib.hid (by rw [sA_length]; exact HCAN.out.1)
                          by_cases hlj : j < 17
                          · have j1 : (j : Int) < 17 := by omega
                            have c1 := digit_cell hb4 (i := j) (by rw [HSL.out]; omega)
                            have c2 := digit_cell hb5 (i := j) (by rw [HCL.out]; omega)
                            have f1 := hb4.free j
                            have hd1 := sA_digit Hn cc HCAN.out.1 (can17_255 HCAN.out) HCD.out j j
                            have hd2 := HCD.out j
                            have HS : Hid (sA Hn cc (j + 1) = (sA Hn cc j).set j ((sA Hn cc j).getD j 0 + cc.getD j 0)) := Lib.hid rfl
                            clear hb1 hb2 hb3 hb4 hb5 hbel
                            generalize (sA Hn cc j).getD j 0 = y at *
                            generalize cc.getD j 0 = z at *
                            obtain ⟨y0, y1⟩ := hd1
                            obtain ⟨z0, z1⟩ := hd2
                            go_wp2_with fail
                            go_region
                            go_wp2_with fail
                            go_roundw
                            case rel => exact ⟨j + 1, by omega, by go_num, H5.out.far (by have := HCA.out; simp; omega) _, H1.out.far (by simp; omega) _, H2.out.far (by simp; omega) _, H3.out.far (by simp) _, by rw [HS.out]; exact H4.out.seti j _, Ext.trans (b := wr.setCell ⟨A + 1 + 1 + 1, j, none⟩ (.int .i64 (y + z))) (Below.setCell HE.out (by have := HAW.out; simp; omega) _) (Ext.drew _)⟩
                            case measure => simp [intOf]; omega
                          · have hj17 : j = 17 := by omega
                            subst hj17
                            rw [show ((17 : Nat) : Int) = 17 from rfl]
                            clear hb1 hb2 hb3 hb4 hb5 hbel
                            have HSD := Lib.hid (sA_digit Hn cc HCAN.out.1 (can17_255 HCAN.out) HCD.out 17)
                            have HSV := Lib.hid (sA_full Hn cc HCAN.out.1 HCL.out)
                            generalize sA Hn cc 17 = s at *
                            have HMUL := Lib.hid (mul17 HSL.out HRL.out HSD.out HRD.out)
                            have HTIM := Lib.hid (fun w => times17_any s r w HSL.out HRL.out HSD.out HRD.out)
                            generalize qThree (tList s r 17) = Hm at *
                            have HIs := Lib.hid (d17_size HSL.out)
                            have HIr := Lib.hid (d17_size HRL.out)
                            have HIm := Lib.hid (d17_size HMUL.out.1.1)
                            have HLm : Hid ((ints .i64 Hm).length = (ints .i64 s).length) := Lib.hid (by rw [ints_length, ints_length, HMUL.out.1.1, HSL.out])
                            go_wp2_with (first | (refine wpList_load_blk rfl _ _ rfl (A + 1 + 1 + 1) rfl _ _ _ _ H4.out Try.underlying83 HIs.out ?_) | (refine wpList_load_blk rfl _ _ rfl (A + 1 + 1) rfl _ _ _ _ H3.out Try.underlying83 HIr.out ?_))
                            refine (HTIM.out wr).mono ?_
                            rintro e w5 ⟨rfl, hb⟩
                            have H1 := Lib.hid (ext_blk H1.out hb)
                            have H2 := Lib.hid (ext_blk H2.out hb)
                            have H3 := Lib.hid (ext_blk H3.out hb)
                            have H4 := Lib.hid (ext_blk H4.out hb)
                            have HE := Lib.hid (HE.out.trans hb)
                            clear hb HTIM
                            have f63 : (f : Int) + 16 ≤ 9223372036854775807 := by have := HBL.out; omega
                            go_wp2_with (refine wpList_store_blk rfl _ _ _ rfl (A + 1 + 1 + 1) (ints .i64 Hm) rfl rfl _ _ H4.out HLm.out HIm.out (ints_one _ _) ?_; intro w6 hb6 hg6)
                            go_roundw
                            case rel =>
                              refine ⟨n + 1, f + 16, Hm, by have := HF.out; omega, by have := HF.out; omega, by go_num, HMUL.out.1, ?_, H1.out.grown hg6 (fun e => by have h := Option.some.inj e; omega), H2.out.grown hg6 (fun e => by have h := Option.some.inj e; omega), H3.out.grown hg6 (fun e => by have h := Option.some.inj e; omega), hb6, ext_grown HE.out hg6 (by have := HAW.out; omega)⟩
                              rw [HMUL.out.2, HSV.out, HCC.out, HRV.out]
                              show _ = (pAcc (pR kb) b n + pBlk b n) * pR kb % (pQ : Int)
                              rw [← HACC.out, Int.mul_emod, Int.add_emod, Int.emod_add_emod]
                              rw [Int.mul_emod ((gV 256 Hn % (pQ : Int) + pBlk b n)), Int.emod_add_emod]
                              simp
                            case measure => simp [intOf]; omega
                · have hnn : n = (b.length + 15) / 16 := by have := HF.out; have := HN.out; omega
                  have HNUM : Hid (pAcc (pR kb) b n = pNum kb b) := Lib.hid (by rw [hnn]; rfl)
                  have HC3 := Lib.hid (can17_three HCAN.out)
                  have HWV := Lib.hid (wOut_val (can17_three HCAN.out).1)
                  have HWH := Lib.hid (fun w => whole17_any Hn w HCAN.out)
                  have HI0 := Lib.hid (d17_size HCAN.out.1)
                  clear hnn
                  go_wp2_with (refine wpList_load_blk rfl _ _ rfl (A + 1 + 1 + 1) rfl _ _ _ _ H4.out Try.underlying83 HI0.out ?_)
                  refine (HWH.out wr).mono ?_
                  rintro e w5 ⟨rfl, hb⟩
                  have H1 := Lib.hid (ext_blk H1.out hb)
                  have H2 := Lib.hid (ext_blk H2.out hb)
                  have H4 := Lib.hid (ext_blk H4.out hb)
                  have HE := Lib.hid (HE.out.trans hb)
                  clear hb HWH H3
                  obtain ⟨h, hh⟩ : ∃ h, h = wOut (qThree Hn) := ⟨_, rfl⟩
                  have HHL : Hid (h.length = 17) := Lib.hid (by rw [hh]; exact HWV.out.1)
                  have HHD : Hid (∀ i, i < 17 → 0 ≤ h.getD i 0 ∧ h.getD i 0 < 256) := Lib.hid (by rw [hh]; exact HWV.out.2.1)
                  have HHV : Hid (gV 256 h = pNum kb b) := Lib.hid (by rw [hh, HWV.out.2.2, HC3.out.2, HACC.out, HNUM.out])
                  rw [← hh]
                  clear hh HC3 HWV HNUM HACC
                  have HTAG := Lib.hid (tag_digits HKL.out HHL.out HHD.out HHV.out)
                  have HIh := Lib.hid (d17_size HHL.out)
                  have HLh : Hid ((ints .i64 h).length = (ints .i64 Hn).length) := Lib.hid (by rw [ints_length, ints_length, HHL.out, HCAN.out.1])
                  go_upto_region 33 with (refine wpList_store_blk rfl _ _ _ rfl (A + 1 + 1 + 1) (ints .i64 h) rfl rfl _ _ H4.out HLh.out HIh.out (ints_one _ _) ?_; intro w6 hb6 hg6)
                  have H1 := Lib.hid (H1.out.grown hg6 (fun e => by have h := Option.some.inj e; omega))
                  have H2 := Lib.hid (H2.out.grown hg6 (fun e => by have h := Option.some.inj e; omega))
                  have HE := Lib.hid (ext_grown HE.out hg6 (by have := HAW.out; omega))
                  have H4 := Lib.hid hb6
                  clear hb6 hg6 HLh HIh HI0 HCAN HF HN
                  have HSL : Hid (((kb.drop 16).take 16).length = 16) := Lib.hid (by rw [List.length_take, List.length_drop, HKL.out]; rfl)
                  have HSG : Hid (∀ i, i < 16 → ((kb.drop 16).take 16).getD i 0 = kb.getD (16 + i) 0) := Lib.hid (fun i hi => by
                    simp [List.getD, List.getElem?_take, hi, List.getElem?_drop])
                  have HDD : Hid (∀ i, 0 ≤ h.getD i 0 ∧ h.getD i 0 ≤ 255) := Lib.hid (fun i => by
                    rcases Nat.lt_or_ge i 17 with hi | hi
                    · have := HHD.out i hi
                      omega
                    · rw [getD_out (by rw [HHL.out]; exact hi)]
                      omega)
                  have HUR := Lib.hid (uT_range HDD.out ((kb.drop 16).take 16))
                  generalize (kb.drop 16).take 16 = s at *
                  obtain ⟨o, ho⟩ : ∃ o, o = polyTag kb b := ⟨_, rfl⟩
                  have HO := Lib.hid ho
                  have HOL : Hid (o.length = 16) := Lib.hid (by rw [ho]; exact polyTag_length _ _)
                  have HOD : Hid (∀ i, i < 16 → tD h s i = ((o.getD i 0).toNat : Int)) := Lib.hid (fun i hi => by
                    have e := congrArg (fun l => l.getD i 0) HTAG.out
                    rw [← ho] at e
                    have e1 : (tL h s 16).getD i 0 = tD h s i := by
                      simp only [tL, List.getD_eq_getElem?_getD, List.getElem?_map, List.getElem?_range hi]
                      rfl
                    have hio : i < o.length := by rw [ho, polyTag_length]; exact hi
                    have e2 : (o.map fun b => (b.toNat : Int)).getD i 0 = ((o.getD i 0).toNat : Int) := by simp [List.getD, hio]
                    rw [← e1, ← e2]
                    exact e)
                  clear ho HTAG
                  obtain ⟨T, hT⟩ : ∃ T, T = w6.heap.size := ⟨_, rfl⟩
                  have HTA : Hid (A + 1 + 1 + 1 < T) := Lib.hid (by have := H4.out.lt; omega)
                  have HXA := Ext.alloc w6 (.cells (ints .u8 (List.replicate 16 0)).toArray 43)
                  have H6 : Hid (Blk (w6.alloc (.cells (ints .u8 (List.replicate 16 0)).toArray 43)) T ((fill 16 o 0).map bval) 43) := Lib.hid (by rw [fill_start, hT]; exact Blk.made w6 (ints .u8 (List.replicate 16 0)) 43)
                  have H1n := Lib.hid (ext_blk H1.out HXA)
                  have H2n := Lib.hid (ext_blk H2.out HXA)
                  have H4n := Lib.hid (ext_blk H4.out HXA)
                  have HEn := Lib.hid (HE.out.trans HXA)
                  clear HXA
                  go_upto_region 34 with (fail)
                  change Code.wp _ _ _ _ (w6.alloc (.cells (ints .u8 (List.replicate 16 0)).toArray 43))
                  rw [← hT]
                  clear H1 H2 H4 HE hT
                  generalize w6.alloc (.cells (ints .u8 (List.replicate 16 0)).toArray 43) = w8 at *
                  go_wp2_with fail
                  go_loopw [16, 17] (fun uv iv wr => ∃ (i : Nat), i ≤ 16 ∧ uv = .int .i64 (uT h s i) ∧ iv = .int .i64 (i : Int) ∧ Blk wr A (kb.map bval) 23 ∧ Blk wr (A + 1) (ints .u8 (List.replicate 16 0)) 43 ∧ Blk wr (A + 1 + 1 + 1) (ints .i64 h) 83 ∧ Blk wr T ((fill 16 o i).map bval) 43 ∧ Ext w wr) (fun _ iv _ => 16 - (intOf iv).toNat)
                  case atStart => exact ⟨0, by omega, rfl, rfl, H1n.out, H2n.out, H4n.out, H6.out, HEn.out⟩
                  case round =>
                    clear H1n H2n H4n H6 HEn
                    obtain ⟨i, hi, rfl, rfl, hb1, hb2, hb4, hb6, hbel⟩ := hrel
                    have i0 : (0 : Int) ≤ (i : Int) := Int.natCast_nonneg _
                    have H1 := Lib.hid hb1
                    have H2 := Lib.hid hb2
                    have H4 := Lib.hid hb4
                    have H6 := Lib.hid hb6
                    have HE := Lib.hid hbel
                    by_cases hli : i < 16
                    · have i1 : (i : Int) < 16 := by omega
                      have i2 : (i : Int) < 17 := by omega
                      obtain ⟨q, hq⟩ : ∃ q, q = 16 + i := ⟨_, rfl⟩
                      have q1 : (16 : Int) + (i : Int) = (q : Int) := by omega
                      have q2 : (q : Int) < 32 := by omega
                      have q3 : (0 : Int) ≤ (q : Int) := by omega
                      have c1 := digit_cell hb4 (i := i) (by rw [HHL.out]; omega)
                      have c2 := hb1.cell q
                      rw [bval_get (by rw [HKL.out]; omega)] at c2
                      have hsg := HSG.out i hli
                      rw [← hq] at hsg
                      rw [← hsg] at c2
                      obtain ⟨u6, c6⟩ : ∃ u, wr.cell? ⟨T, i, none⟩ = some u := ⟨_, by rw [hb6.cell, bval_get (by rw [fill_length HOL.out (by omega)]; exact hli)]⟩
                      have f6 := hb6.free i
                      have hu := HUR.out i
                      have hz := HDD.out i
                      have hy := (s.getD i 0).toNat_lt
                      have HU : Hid (uT h s (i + 1) = (uT h s i + h.getD i 0 + ((s.getD i 0).toNat : Int)) / 256) := Lib.hid rfl
                      have HD : Hid ((uT h s i + h.getD i 0 + ((s.getD i 0).toNat : Int)) % 256 = ((o.getD i 0).toNat : Int)) := Lib.hid (HOD.out i hli)
                      clear hb1 hb2 hb4 hb6 hbel hq hsg
                      change wr.cell? ⟨A, q, none⟩ = some (.int .u8 ((s.getD i 0).toNat : Int)) at c2
                      generalize (s.getD i 0).toNat = y at *
                      generalize h.getD i 0 = z at *
                      generalize uT h s i = u at *
                      obtain ⟨u0, u1⟩ := hu
                      obtain ⟨z0, z1⟩ := hz
                      have y1 : (y : Int) ≤ 255 := by omega
                      have y2 : (0 : Int) ≤ (y : Int) := by omega
                      have a1 := and_i64_255 (u + z + (y : Int)) (by omega) (by omega)
                      go_wp2_with fail
                      go_region
                      go_wp2_with fail
                      go_roundw
                      case rel =>
                        refine ⟨i + 1, by omega, by rw [HU.out], by go_num, H1.out.far (by have := HTA.out; simp; omega) _, H2.out.far (by have := HTA.out; simp; omega) _, H4.out.far (by have := HTA.out; simp; omega) _, ?_, Ext.trans (b := wr.setCell ⟨T, i, none⟩ (.int .u8 ((u + z + (y : Int)) % 256))) (Below.setCell HE.out (by have := HAW.out; have := HTA.out; simp; omega) _) (Ext.drew _)⟩
                        rw [← fill_set_val HOL.out hli HD.out]
                        exact H6.out.set i _
                      case measure => simp [intOf]; omega
                    · have hi16 : i = 16 := by omega
                      subst hi16
                      rw [fill_full HOL.out] at hb6
                      have H6 := Lib.hid hb6
                      have HIo : Hid ((Try.prog.info? 43).map (·.size) = some (o.map bval).length) := Lib.hid (tag_size HOL.out)
                      have HLo : Hid ((o.map bval).length = (ints .u8 (List.replicate 16 0)).length) := Lib.hid (by rw [List.length_map, HOL.out, ints_length, List.length_replicate])
                      clear hb1 hb2 hb4 hb6 hbel
                      go_wp2_with (first | (refine wpList_load_blk rfl _ _ rfl T rfl _ _ _ _ H6.out Try.underlying43 HIo.out ?_) | (refine wpList_store_blk rfl _ _ _ rfl (A + 1) (o.map bval) rfl rfl _ _ H2.out HLo.out HIo.out (bval_one _) ?_; intro w9 hb9 hg9))
                      refine bodyPost_ret (result_blk rfl _ (A + 1) _ _ _ _ rfl hb9 Try.underlying43 HIo.out) rfl ?_
                      exact ⟨by rw [HO.out], ext_grown HE.out hg9 (by have := HAW.out; omega)⟩

end Go.Proofs.Ytflefkmpllbeeaa

/- The walks of the document's own tag of chapter 11, Seal and Open. Each theorem names its own conditions. -/
namespace Go.Proofs.Ytflefkmpllbeeaa
open Go.RowKit
set_option linter.unusedVariables false
set_option linter.unusedSimpArgs false

theorem byte_one : (Try.prog.info? 5).map (·.size) = some 1 := by kernel_rfl
theorem fill_two (s c : List UInt8) : (s ++ z16 s.length ++ c) ++ z16 (s ++ z16 s.length ++ c).length = s ++ (z16 s.length ++ (c ++ z16 c.length)) := by
  have e : z16 (s ++ z16 s.length ++ c).length = z16 c.length := by
    unfold z16
    simp only [List.length_append, List.length_replicate]
    congr 1
    omega
  rw [e]
  simp [List.append_assoc]
theorem aeaMsg_length (c s : List UInt8) : (aeaMsg c s).length ≤ c.length + s.length + 46 := by
  unfold aeaMsg
  simp only [List.length_append, z16_length, bytesN_length]
  omega

set_option maxRecDepth 100000 in
set_option maxHeartbeats 8000000 in
theorem rTag_any (kb nb c s : List UInt8) (cv sv : Value) (w : World) (hk : kb.length = 32) (hn : nb.length = 12) (hc : Row1 w cv (c.map bval)) (hs : Row1 w sv (s.map bval)) (hcl : c.length ≤ 1000000000) (hsl : s.length ≤ 1000000000) :
    Calls Try.prog 22 #[.agg (kb.map bval).toArray, .agg (nb.map bval).toArray, cv, sv] w fun e w' => e = .returned (.agg ((aeaTag kb nb c s).map bval).toArray) ∧ Below w.heap.size w w' := by
  obtain ⟨i0, hi, hz0, hz1, hz2⟩ := info_parts Try.info5
  have HI0 := Lib.hid hi
  have HZ0 := Lib.hid hz0
  have HZ1 := Lib.hid hz1
  have HZ2 := Lib.hid hz2
  have HC0 := Lib.hid hc
  have HS0 := Lib.hid hs
  obtain ⟨ac, capc, hcv, c1, c2, _⟩ := id hc
  obtain ⟨ad, caps, hsv, s1, s2, _⟩ := id hs
  rw [List.length_map] at hcv c1 hsv s1
  subst hcv hsv
  unfold maxLen at c2 s2
  have HCL := Lib.hid hcl
  have HSL := Lib.hid hsl
  have HB := Lib.hid (boxes3 w (kb.map bval) (nb.map bval) (ints .u8 (List.replicate 16 0)) 23 25 43)
  have HIK : Hid ((Try.prog.info? 23).map (·.size) = some (kb.map bval).length) := Lib.hid (num_size hk)
  have HIN : Hid ((Try.prog.info? 25).map (·.size) = some (nb.map bval).length) := Lib.hid (nonce_size hn)
  have HKL := Lib.hid hk
  have HNL := Lib.hid hn
  clear hi hz0 hz1 hz2 hc hs hk hn
  go_enter Try.func22, Try.ntmps22
  go_upto_region 1 with (fail)
  obtain ⟨H1, H2, H3, HE⟩ := HB.out
  change Code.wp _ _ _ _ (((w.alloc (.cells (kb.map bval).toArray 23)).alloc (.cells (nb.map bval).toArray 25)).alloc (.cells (ints .u8 (List.replicate 16 0)).toArray 43))
  generalize ((w.alloc (.cells (kb.map bval).toArray 23)).alloc (.cells (nb.map bval).toArray 25)).alloc (.cells (ints .u8 (List.replicate 16 0)).toArray 43) = wa at *
  obtain ⟨A, hA⟩ : ∃ A, A = w.heap.size := ⟨_, rfl⟩
  have HAW : Hid (w.heap.size ≤ A) := Lib.hid (by omega)
  rw [← hA] at H1 H2 H3 ⊢
  have H1 := Lib.hid H1
  have H2 := Lib.hid H2
  have H3 := Lib.hid H3
  have HE : Hid (Ext w wa) := Lib.hid HE
  clear hA HB
  go_wp2_with (first | (refine wpList_load_blk rfl _ _ rfl A rfl _ _ _ _ H1.out Try.underlying23 HIK.out ?_) | (refine wpList_load_blk rfl _ _ rfl (A + 1) rfl _ _ _ _ H2.out Try.underlying25 HIN.out ?_))
  refine (rBlock_any kb nb 0 wa HKL.out HNL.out (by decide) (by decide)).mono ?_
  rintro e w1 ⟨rfl, hb⟩
  have H3 := Lib.hid (ext_blk H3.out hb)
  have HE := Lib.hid (HE.out.trans hb)
  clear hb H1 H2
  have HOK : Hid (oneKey kb nb = (chaBlock kb (BitVec.ofInt 32 0) nb).take 32) := Lib.hid rfl
  have HBL := Lib.hid (chaBlock_length kb (BitVec.ofInt 32 0) nb)
  generalize chaBlock kb (BitVec.ofInt 32 0) nb = k at *
  have HZ := Lib.hid (Blk.made w1 (ints .u8 (List.replicate 64 0)) 39)
  have HEA := Lib.hid (Ext.alloc w1 (.cells (ints .u8 (List.replicate 64 0)).toArray 39))
  have HIS : Hid ((Try.prog.info? 39).map (·.size) = some (k.map bval).length) := Lib.hid (sig_size HBL.out)
  have HLo : Hid ((k.map bval).length = (ints .u8 (List.replicate 64 0)).length) := Lib.hid (by rw [List.length_map, HBL.out, ints_length, List.length_replicate])
  go_upto_region 2 with (refine wpList_store_blk rfl _ _ _ rfl w1.heap.size (k.map bval) rfl rfl _ _ HZ.out HLo.out HIS.out (bval_one _) ?_; intro w2 hb2 hg2)
  have HE4 := Lib.hid (ext_grown HEA.out hg2 (Nat.le_refl _))
  have H3 := Lib.hid (ext_blk H3.out HE4.out)
  have HE := Lib.hid (HE.out.trans HE4.out)
  obtain ⟨S, hS⟩ : ∃ S, S = w1.heap.size := ⟨_, rfl⟩
  rw [← hS] at hb2 ⊢
  have H4 := Lib.hid hb2
  clear hb2 hg2 HZ HEA HE4 HLo hS
  have HXA := Ext.alloc w2 (.cells (ints .u8 (List.replicate 32 0)).toArray 23)
  obtain ⟨O, hO⟩ : ∃ O, O = w2.heap.size := ⟨_, rfl⟩
  have HOA : Hid (A + 1 + 1 < O ∧ w.heap.size ≤ O) := Lib.hid (by have := H3.out.lt; have := HE.out.size; omega)
  have H5 : Hid (Blk (w2.alloc (.cells (ints .u8 (List.replicate 32 0)).toArray 23)) O ((List.replicate 32 (0 : UInt8)).map bval) 23) := Lib.hid (by rw [hO]; exact Blk.made w2 (ints .u8 (List.replicate 32 0)) 23)
  have H3 := Lib.hid (ext_blk H3.out HXA)
  have H4 := Lib.hid (ext_blk H4.out HXA)
  have HE := Lib.hid (HE.out.trans HXA)
  clear HXA
  go_upto_region 3 with (fail)
  change Code.wp _ _ _ _ (w2.alloc (.cells (ints .u8 (List.replicate 32 0)).toArray 23))
  rw [← hO]
  clear hO
  generalize w2.alloc (.cells (ints .u8 (List.replicate 32 0)).toArray 23) = w3 at *
  refine wp_region_from 2 1 2 rfl (by kernel_rfl) (by kernel_rfl) (fun d v c a w h => by cases d <;> exact h) (by kernel_rfl) ?_
  refine det_val (.slice (some ⟨O, 0, none⟩) 32 32) (by rfl) (fun w hw => by go_simp) ?_
  simp only [Act.put, List.setIfInBounds_toArray, List.set_cons_zero, List.set_cons_succ]
  refine det_val (.slice (some ⟨S, 0, none⟩) 32 64) (by rfl) (fun w hw => by go_simp) ?_
  simp only [Act.put, List.setIfInBounds_toArray, List.set_cons_zero, List.set_cons_succ]
  refine det_nil (end_store (k := 2) rfl (by kernel_rfl) (by kernel_rfl) (by kernel_rfl) rfl (fun w4 hw4 => ?_))
  have H3 := Lib.hid (ext_blk H3.out hw4)
  have H4 := Lib.hid (ext_blk H4.out hw4)
  have H5 := Lib.hid (ext_blk H5.out hw4)
  have HE := Lib.hid (HE.out.trans hw4)
  clear hw4
  have HTL : Hid ((k.take 32).length = 32) := Lib.hid (by rw [List.length_take, HBL.out]; rfl)
  refine wp_copy_blk _ _ 26 26 rfl 5 Try.underlying26 byte_one _ _ _ _ _ _ rfl rfl O 0 _ _ H5.out ((k.take 32).map bval) (by rw [List.length_map, HTL.out]; rfl) (fun _ => ⟨rfl, ⟨S, 0, none⟩, rfl, fun j v hj => ?_⟩) (by rw [List.length_map, HTL.out]; simp) (bval_one _) ?_
  · have hj2 : j < 32 := by
      rcases Nat.lt_or_ge j 32 with h | h
      · exact h
      · rw [List.getElem?_eq_none (by rw [List.length_map, HTL.out]; omega)] at hj; cases hj
    rw [WideShapes.add_plain, Nat.zero_add, H4.out.cell, ← hj, List.getElem?_map, List.getElem?_map, List.getElem?_take, if_pos hj2]
  intro w5 hb5 hg5
  have e32 : splice ((List.replicate 32 (0 : UInt8)).map bval) 0 ((k.take 32).map bval) = (k.take 32).map bval := by
    rw [splice_bytes, HTL.out]
    simp
  rw [e32] at hb5
  have H3 := Lib.hid (H3.out.grown hg5 (by have := HOA.out; simp; omega))
  have HE := Lib.hid (ext_grown HE.out hg5 HOA.out.2)
  have H5 := Lib.hid hb5
  clear hb5 hg5 H4 e32
  generalize goInt ((k.take 32).map bval).length = g1
  simp only [Act.put, List.getElem_toArray, List.getElem_cons_zero, List.getElem_cons_succ, List.setIfInBounds_toArray, List.set_cons_zero, List.set_cons_succ]
  rw [← HOK.out] at HTL H5
  have HIO : Hid ((Try.prog.info? 23).map (·.size) = some ((oneKey kb nb).map bval).length) := Lib.hid (num_size HTL.out)
  have HTG : Hid (aeaTag kb nb c s = polyTag (oneKey kb nb) (aeaMsg c s)) := Lib.hid rfl
  generalize oneKey kb nb = ok at *
  -- what is tagged
  obtain ⟨base, hbase⟩ : ∃ base, base = w5.heap.size := ⟨_, rfl⟩
  have HBS : Hid (base ≤ w5.heap.size) := Lib.hid (by omega)
  have HBW : Hid (w.heap.size ≤ base) := Lib.hid (by rw [hbase]; exact HE.out.size)
  have HBO : Hid (A + 1 + 1 < base ∧ O < base) := Lib.hid (by have := H3.out.lt; have := H5.out.lt; omega)
  have HNIL : Hid (w5.ownsRow base 5 1 (.slice none 0 0) 0 []) := Lib.hid (World.ownsRow_nil _ _ _ _)
  have HSR := Lib.hid (HS0.out.below HE.out)
  have HLM : Hid ((s.map bval).length = s.length) := Lib.hid (List.length_map _)
  have HLC : Hid ((c.map bval).length = c.length) := Lib.hid (List.length_map _)
  clear hbase
  go_wp2_with (at_builtin; refine wpList_append_row rfl _ _ 26 rfl base 5 i0 (.int .u8 0) 1 Try.underlying26 HI0.out HZ0.out HZ1.out HZ2.out rfl _ 0 [] rfl HNIL.out rfl HSR.out (bval_one _) (by rw [HLM.out]; have := HSL.out; unfold maxLen; omega) (by rw [HLM.out]; have := HSL.out; omega) HBS.out ?_; intro v6 w6 hown6 hgrow6)
  have HB6 := Lib.hid (below_own (Below.refl base w5) HNIL.out hgrow6 HBS.out)
  have HO6 : Hid (w6.ownsRow base 5 1 v6 s.length (s.map bval)) := Lib.hid (own_eq hown6 (by rw [HLM.out]; omega) rfl)
  clear hown6 hgrow6 HNIL HSR
  have HS6 : Hid (base ≤ w6.heap.size) := Lib.hid (Nat.le_trans HBS.out HB6.out.size)
  go_wp2_with fail
  refine (rFilled_any v6 s base w6 HO6.out HS6.out (by have := HSL.out; omega)).mono ?_
  rintro e w7 ⟨x7, rfl, ho7, hb7⟩
  have HB7 := Lib.hid (HB6.out.trans hb7)
  obtain ⟨m7, hm7⟩ : ∃ m7, m7 = s ++ z16 s.length := ⟨_, rfl⟩
  have HL7 : Hid (m7.length ≤ s.length + 16) := Lib.hid (by rw [hm7, List.length_append, z16_length]; omega)
  rw [← hm7] at ho7
  have HM7 := Lib.hid hm7
  have HO7 := Lib.hid ho7
  clear ho7 hb7 hm7 HO6 HB6 HS6
  have HE7 : Hid (Ext w w7) := Lib.hid (Below.trans HE.out (Below.mono HB7.out HBW.out))
  have HCR := Lib.hid (HC0.out.below HE7.out)
  have HS7 : Hid (base ≤ w7.heap.size) := Lib.hid (Nat.le_trans HBS.out HB7.out.size)
  have HF7 : Hid (m7.length + (c.map bval).length ≤ 3000000000) := Lib.hid (by rw [HLC.out]; have := HL7.out; have := HCL.out; have := HSL.out; omega)
  go_wp2_with (at_builtin; refine wpList_append_row rfl _ _ 26 rfl base 5 i0 (.int .u8 0) 1 Try.underlying26 HI0.out HZ0.out HZ1.out HZ2.out rfl _ _ _ rfl HO7.out rfl HCR.out (bval_one _) (by have := HF7.out; unfold maxLen; omega) (by have := HF7.out; omega) HS7.out ?_; intro v8 w8 hown8 hgrow8)
  have HB8 := Lib.hid (below_own HB7.out HO7.out hgrow8 HS7.out)
  have HO8 : Hid (w8.ownsRow base 5 1 v8 (m7 ++ c).length ((m7 ++ c).map bval)) := Lib.hid (own_eq hown8 (by rw [HLC.out, List.length_append]) (by rw [List.map_append]))
  clear hown8 hgrow8 HO7 HB7 HS7 HCR HE7 HF7
  have HS8 : Hid (base ≤ w8.heap.size) := Lib.hid (Nat.le_trans HBS.out HB8.out.size)
  go_wp2_with fail
  refine (rFilled_any v8 (m7 ++ c) base w8 HO8.out HS8.out (by rw [List.length_append]; have := HL7.out; have := HCL.out; have := HSL.out; omega)).mono ?_
  rintro e w9 ⟨x9, rfl, ho9, hb9⟩
  have HB9 := Lib.hid (HB8.out.trans hb9)
  have e9 := fill_two s c
  rw [← HM7.out] at e9
  rw [e9] at ho9
  have HMG : Hid (aeaMsg c s = (s ++ (z16 s.length ++ (c ++ z16 c.length))) ++ bytesN 8 s.length ++ bytesN 8 c.length) := Lib.hid (by unfold aeaMsg; simp [List.append_assoc])
  have HL9 : Hid ((s ++ (z16 s.length ++ (c ++ z16 c.length))).length ≤ 2000000100) := Lib.hid (by simp only [List.length_append, z16_length]; have := HCL.out; have := HSL.out; omega)
  obtain ⟨m9, hm9⟩ : ∃ m9, m9 = s ++ (z16 s.length ++ (c ++ z16 c.length)) := ⟨_, rfl⟩
  rw [← hm9] at ho9 HMG HL9
  have HO9 := Lib.hid ho9
  clear ho9 hb9 e9 hm9 HO8 HB8 HS8 HM7 HL7
  have HS9 : Hid (base ≤ w9.heap.size) := Lib.hid (Nat.le_trans HBS.out HB9.out.size)
  go_wp2_with fail
  refine (rLength_any s.length w9 (by have := HSL.out; omega)).mono ?_
  rintro e w10 ⟨x10, rfl, ho10, hb10⟩
  have HB10 := Lib.hid (HB9.out.trans (Below.mono hb10 HS9.out))
  have HO10 := Lib.hid (own_below HO9.out hb10)
  have HR10 := Lib.hid (Row1.of_own ho10)
  have HS10 : Hid (base ≤ w10.heap.size) := Lib.hid (Nat.le_trans HBS.out HB10.out.size)
  have HF10 : Hid (m9.length + ((bytesN 8 s.length).map bval).length ≤ 2000000200) := Lib.hid (by rw [List.length_map, bytesN_length]; have := HL9.out; omega)
  clear ho10 hb10 HO9 HB9 HS9
  go_wp2_with (at_builtin; refine wpList_append_row rfl _ _ 26 rfl base 5 i0 (.int .u8 0) 1 Try.underlying26 HI0.out HZ0.out HZ1.out HZ2.out rfl _ _ _ rfl HO10.out rfl HR10.out (bval_one _) (by have := HF10.out; unfold maxLen; omega) (by have := HF10.out; omega) HS10.out ?_; intro v11 w11 hown11 hgrow11)
  have HB11 := Lib.hid (below_own HB10.out HO10.out hgrow11 HS10.out)
  have HO11 : Hid (w11.ownsRow base 5 1 v11 (m9 ++ bytesN 8 s.length).length ((m9 ++ bytesN 8 s.length).map bval)) := Lib.hid (own_eq hown11 (by rw [List.length_map, List.length_append]) (by rw [List.map_append]))
  clear hown11 hgrow11 HO10 HB10 HS10 HR10 HF10
  have HS11 : Hid (base ≤ w11.heap.size) := Lib.hid (Nat.le_trans HBS.out HB11.out.size)
  refine (rLength_any c.length w11 (by have := HCL.out; omega)).mono ?_
  rintro e w12 ⟨x12, rfl, ho12, hb12⟩
  have HB12 := Lib.hid (HB11.out.trans (Below.mono hb12 HS11.out))
  have HO12 := Lib.hid (own_below HO11.out hb12)
  have HR12 := Lib.hid (Row1.of_own ho12)
  have HS12 : Hid (base ≤ w12.heap.size) := Lib.hid (Nat.le_trans HBS.out HB12.out.size)
  have HF12 : Hid ((m9 ++ bytesN 8 s.length).length + ((bytesN 8 c.length).map bval).length ≤ 2000000300) := Lib.hid (by rw [List.length_map, bytesN_length, List.length_append, bytesN_length]; have := HL9.out; omega)
  clear ho12 hb12 HO11 HB11 HS11
  go_upto_region 7 with (at_builtin; refine wpList_append_row rfl _ _ 26 rfl base 5 i0 (.int .u8 0) 1 Try.underlying26 HI0.out HZ0.out HZ1.out HZ2.out rfl _ _ _ rfl HO12.out rfl HR12.out (bval_one _) (by have := HF12.out; unfold maxLen; omega) (by have := HF12.out; omega) HS12.out ?_; intro v13 w13 hown13 hgrow13)
  have HB13 := Lib.hid (below_own HB12.out HO12.out hgrow13 HS12.out)
  have HO13 : Hid (w13.ownsRow base 5 1 v13 (aeaMsg c s).length ((aeaMsg c s).map bval)) := Lib.hid (own_eq hown13 (by rw [HMG.out, List.length_map]; simp only [List.length_append]) (by rw [HMG.out]; simp only [List.map_append]))
  clear hown13 hgrow13 HO12 HB12 HS12 HR12 HF12
  have H3 := Lib.hid (H3.out.same (HB13.out.block _ HBO.out.1))
  have H5 := Lib.hid (H5.out.same (HB13.out.block _ HBO.out.2))
  have HE : Hid (Ext w w13) := Lib.hid (Below.trans HE.out (Below.mono HB13.out HBW.out))
  have HRM := Lib.hid (Row1.of_own HO13.out)
  have HGL : Hid ((aeaMsg c s).length ≤ 1099511627776) := Lib.hid (by have := aeaMsg_length c s; have := HCL.out; have := HSL.out; omega)
  generalize aeaMsg c s = m at *
  clear HMG HO13 HB13 HL9
  have HIT : Hid ((Try.prog.info? 43).map (·.size) = some ((polyTag ok m).map bval).length) := Lib.hid (tag_size (polyTag_length _ _))
  have HLt : Hid (((polyTag ok m).map bval).length = (ints .u8 (List.replicate 16 0)).length) := Lib.hid (by rw [List.length_map, polyTag_length, ints_length, List.length_replicate])
  go_wp2_with (refine wpList_load_blk rfl _ _ rfl O rfl _ _ _ _ H5.out Try.underlying23 HIO.out ?_)
  refine (rPoly_any ok m _ w13 HTL.out HRM.out HGL.out).mono ?_
  rintro e w14 ⟨rfl, hb⟩
  have H3 := Lib.hid (ext_blk H3.out hb)
  have HE := Lib.hid (HE.out.trans hb)
  clear hb
  go_wp2_with (refine wpList_store_blk rfl _ _ _ rfl (A + 1 + 1) ((polyTag ok m).map bval) rfl rfl _ _ H3.out HLt.out HIT.out (bval_one _) ?_; intro w15 hb15 hg15)
  refine bodyPost_ret (result_blk rfl _ (A + 1 + 1) _ _ _ _ rfl hb15 Try.underlying43 HIT.out) rfl ?_
  exact ⟨by rw [HTG.out], ext_grown HE.out hg15 (by have := HAW.out; omega)⟩

end Go.Proofs.Ytflefkmpllbeeaa

/- The walks of the document's own Seal and Open of chapter 11. Laid by wip/gen/gaea3.py. Each theorem names its own conditions. -/
namespace Go.Proofs.Ytflefkmpllbeeaa
open Go.RowKit
set_option linter.unusedVariables false
set_option linter.unusedSimpArgs false

theorem res_two {fn : Func} {i j : Nat} (hf : fn.results = #[.tmp i, .tmp j]) (tmps : Array Value) (w : World) :
    (results fn tmps).run Try.prog w = .ok (.tuple #[tmps.getD i undef, tmps.getD j undef]) w := by
  unfold results
  rw [hf]
  simp

set_option maxRecDepth 100000 in
set_option maxHeartbeats 8000000 in
theorem rSeal_any (kb nb p s : List UInt8) (pv sv : Value) (w : World) (hk : kb.length = 32) (hn : nb.length = 12) (hp : Row1 w pv (p.map bval)) (hs : Row1 w sv (s.map bval)) (hpl : p.length ≤ 1000000000) (hsl : s.length ≤ 1000000000) :
    Calls Try.prog 11 #[.agg (kb.map bval).toArray, .agg (nb.map bval).toArray, pv, sv] w fun e w' => ∃ x, e = .returned x ∧ w'.ownsRow w.heap.size 5 1 x (p.length + 16) ((sealB kb nb p s).map bval) ∧ Below w.heap.size w w' := by
  obtain ⟨i0, hi, hz0, hz1, hz2⟩ := info_parts Try.info5
  have HI0 := Lib.hid hi
  have HZ0 := Lib.hid hz0
  have HZ1 := Lib.hid hz1
  have HZ2 := Lib.hid hz2
  have HP0 := Lib.hid hp
  have HS0 := Lib.hid hs
  have HPL := Lib.hid hpl
  have HSL := Lib.hid hsl
  have HB := Lib.hid (boxes2 w (kb.map bval) (nb.map bval) 23 25)
  have HIK : Hid ((Try.prog.info? 23).map (·.size) = some (kb.map bval).length) := Lib.hid (num_size hk)
  have HIN : Hid ((Try.prog.info? 25).map (·.size) = some (nb.map bval).length) := Lib.hid (nonce_size hn)
  have HKL := Lib.hid hk
  have HNL := Lib.hid hn
  clear hi hz0 hz1 hz2 hp hs hk hn hpl hsl
  go_enter Try.func11, Try.ntmps11
  go_upto_region 1 with (fail)
  obtain ⟨H1, H2, HE⟩ := HB.out
  change Code.wp _ _ _ _ ((w.alloc (.cells (kb.map bval).toArray 23)).alloc (.cells (nb.map bval).toArray 25))
  generalize (w.alloc (.cells (kb.map bval).toArray 23)).alloc (.cells (nb.map bval).toArray 25) = wa at *
  obtain ⟨A, hA⟩ : ∃ A, A = w.heap.size := ⟨_, rfl⟩
  have HAW : Hid (w.heap.size ≤ A) := Lib.hid (by omega)
  rw [← hA] at H1 H2 ⊢
  have H1 := Lib.hid H1
  have H2 := Lib.hid H2
  have HE : Hid (Ext w wa) := Lib.hid HE
  clear hA HB
  go_wp2_with (first | (refine wpList_load_blk rfl _ _ rfl A rfl _ _ _ _ H1.out Try.underlying23 HIK.out ?_) | (refine wpList_load_blk rfl _ _ rfl (A + 1) rfl _ _ _ _ H2.out Try.underlying25 HIN.out ?_))
  refine (rTurn_any kb nb p _ 1 wa HKL.out HNL.out (HP0.out.below HE.out) (by have := HPL.out; omega) (by decide) (by decide)).mono ?_
  rintro e w1 ⟨x1, rfl, ho1, hb1⟩
  have HO1 : Hid (w1.ownsRow w.heap.size 5 1 x1 p.length ((chaTurn kb 1 nb p).map bval)) := Lib.hid (own_mono ho1 HE.out.size)
  have H1 := Lib.hid (ext_blk H1.out hb1)
  have H2 := Lib.hid (ext_blk H2.out hb1)
  have HE := Lib.hid (HE.out.trans hb1)
  clear ho1 hb1
  have HCL := Lib.hid (chaTurn_length kb 1 nb p)
  have HSB : Hid (sealB kb nb p s = chaTurn kb 1 nb p ++ aeaTag kb nb (chaTurn kb 1 nb p) s) := Lib.hid rfl
  generalize chaTurn kb 1 nb p = c at *
  go_wp2_with (first | (refine wpList_load_blk rfl _ _ rfl A rfl _ _ _ _ H1.out Try.underlying23 HIK.out ?_) | (refine wpList_load_blk rfl _ _ rfl (A + 1) rfl _ _ _ _ H2.out Try.underlying25 HIN.out ?_))
  refine (rTag_any kb nb c s _ _ w1 HKL.out HNL.out (Row1.of_own HO1.out) (HS0.out.below HE.out) (by rw [HCL.out]; exact HPL.out) HSL.out).mono ?_
  rintro e w2 ⟨rfl, hb⟩
  have HE := Lib.hid (HE.out.trans hb)
  have HO2 := Lib.hid (own_below HO1.out hb)
  clear hb HO1 H1 H2
  have HTL := Lib.hid (aeaTag_length kb nb c s)
  generalize aeaTag kb nb c s = tg at *
  have HZ := Lib.hid (Blk.made w2 (ints .u8 (List.replicate 16 0)) 43)
  have HEA := Lib.hid (Ext.alloc w2 (.cells (ints .u8 (List.replicate 16 0)).toArray 43))
  have HIT : Hid ((Try.prog.info? 43).map (·.size) = some (tg.map bval).length) := Lib.hid (tag_size HTL.out)
  have HLo : Hid ((tg.map bval).length = (ints .u8 (List.replicate 16 0)).length) := Lib.hid (by rw [List.length_map, HTL.out, ints_length, List.length_replicate])
  go_upto_region 3 with (refine wpList_store_blk rfl _ _ _ rfl w2.heap.size (tg.map bval) rfl rfl _ _ HZ.out HLo.out HIT.out (bval_one _) ?_; intro w3 hb3 hg3)
  have HE4 := Lib.hid (ext_grown HEA.out hg3 (Nat.le_refl _))
  have HO3 := Lib.hid (own_below HO2.out HE4.out)
  have HE := Lib.hid (HE.out.trans HE4.out)
  obtain ⟨T, hT⟩ : ∃ T, T = w2.heap.size := ⟨_, rfl⟩
  rw [← hT] at hb3 ⊢
  have HTR := Lib.hid (blk_row (n := 16) hb3 (by rw [List.length_map, HTL.out]) (by unfold maxLen; omega))
  clear hb3 hg3 HZ HEA HE4 HLo hT HO2
  have HF : Hid (p.length + (tg.map bval).length ≤ 1000000100) := Lib.hid (by rw [List.length_map, HTL.out]; have := HPL.out; omega)
  go_wp2_with (at_builtin; refine wpList_append_row rfl _ _ 26 rfl w.heap.size 5 i0 (.int .u8 0) 1 Try.underlying26 HI0.out HZ0.out HZ1.out HZ2.out rfl _ _ _ rfl HO3.out rfl HTR.out (bval_one _) (by have := HF.out; unfold maxLen; omega) (by have := HF.out; omega) HE.out.size ?_; intro v4 w4 hown4 hgrow4)
  have HE4 := Lib.hid (ext_own HE.out HO3.out (Nat.le_refl _) hgrow4)
  have HO4 : Hid (w4.ownsRow w.heap.size 5 1 v4 (p.length + 16) ((sealB kb nb p s).map bval)) := Lib.hid (own_eq hown4 (by rw [List.length_map, HTL.out]) (by rw [HSB.out, List.map_append]))
  clear hown4 hgrow4
  go_ret
  exact ⟨_, rfl, HO4.out, HE4.out⟩

set_option maxRecDepth 100000 in
set_option maxHeartbeats 8000000 in
theorem rOpen_any (kb nb b s : List UInt8) (bv sv : Value) (w : World) (hk : kb.length = 32) (hn : nb.length = 12) (hb : Row1 w bv (b.map bval)) (hs : Row1 w sv (s.map bval)) (hbl : b.length ≤ 1000000000) (hsl : s.length ≤ 1000000000) :
    Calls Try.prog 13 #[.agg (kb.map bval).toArray, .agg (nb.map bval).toArray, bv, sv] w fun e w' => ∃ x, e = .returned (.tuple #[x, .bool (openB kb nb b s).isSome]) ∧ Row1 w' x (((openB kb nb b s).getD []).map bval) ∧ Below w.heap.size w w' := by
  have HB0 := Lib.hid hb
  have HS0 := Lib.hid hs
  have HBL := Lib.hid hbl
  have HSL := Lib.hid hsl
  obtain ⟨ab, capb, hbv, r1, r2, _⟩ := id hb
  rw [List.length_map] at hbv r1
  subst hbv
  unfold maxLen at r2
  have HB := Lib.hid (boxes2 w (kb.map bval) (nb.map bval) 23 25)
  have HIK : Hid ((Try.prog.info? 23).map (·.size) = some (kb.map bval).length) := Lib.hid (num_size hk)
  have HIN : Hid ((Try.prog.info? 25).map (·.size) = some (nb.map bval).length) := Lib.hid (nonce_size hn)
  have HKL := Lib.hid hk
  have HNL := Lib.hid hn
  have hb0 : (0 : Int) ≤ (b.length : Int) := Int.natCast_nonneg _
  clear hb hs hk hn hsl
  go_enter Try.func13, Try.ntmps13
  go_upto_region 1 with (fail)
  obtain ⟨H1, H2, HE⟩ := HB.out
  change Code.wp _ _ _ _ ((w.alloc (.cells (kb.map bval).toArray 23)).alloc (.cells (nb.map bval).toArray 25))
  generalize (w.alloc (.cells (kb.map bval).toArray 23)).alloc (.cells (nb.map bval).toArray 25) = wa at *
  obtain ⟨A, hA⟩ : ∃ A, A = w.heap.size := ⟨_, rfl⟩
  rw [← hA] at H1 H2 ⊢
  have H1 := Lib.hid H1
  have H2 := Lib.hid H2
  have HE : Hid (Ext w wa) := Lib.hid HE
  clear hA HB
  by_cases h16 : b.length < 16
  · have h16' : (b.length : Int) < 16 := by omega
    have HON := Lib.hid (openB_short kb nb s h16)
    go_wp2_with fail
    refine bodyPost_ret (res_two rfl _ _) rfl ?_
    exact ⟨_, by rw [HON.out]; rfl, by rw [HON.out]; exact Row1.nil _, HE.out⟩
  · have h16' : ¬ (b.length : Int) < 16 := by omega
    obtain ⟨q, hq⟩ : ∃ q, q = b.length - 16 := ⟨_, rfl⟩
    have q1 : (b.length : Int) - 16 = (q : Int) := by omega
    have q0 : (0 : Int) ≤ (q : Int) := Int.natCast_nonneg _
    have hql : q ≤ (b.map bval).length := by rw [List.length_map]; omega
    have HQL : Hid (q ≤ 1000000000) := Lib.hid (by omega)
    have HOP : Hid (openB kb nb b s = if aeaTag kb nb (b.take q) s = b.drop q then some (chaTurn kb 1 nb (b.take q)) else none) := Lib.hid (by
      unfold openB
      rw [if_neg h16, ← hq])
    have HSUB : Hid (IntKind.i64.wrap ((b.length : Int) - 16) = (q : Int)) := Lib.hid (by rw [IntKind.wrap_i64]; omega)
    have HBR := Lib.hid (HB0.out.below HE.out)
    obtain ⟨vt, ht, st⟩ := row_upto Try.underlying26 Try.sizeOf5 HBR.out q hql
    obtain ⟨at', nt, ct, rfl⟩ := row_form2 ht
    rw [← List.map_take] at ht
    have HTR := Lib.hid ht
    have hqcap : (q : Int) ≤ (capb : Int) := by rw [List.length_map] at hql; omega
    clear ht hbl hq h16 hql
    go_wp2_with (first | (refine wpList_load_blk rfl _ _ rfl A rfl _ _ _ _ H1.out Try.underlying23 HIK.out ?_) | (refine wpList_load_blk rfl _ _ rfl (A + 1) rfl _ _ _ _ H2.out Try.underlying25 HIN.out ?_))
    refine (rTag_any kb nb (b.take q) s _ _ wa HKL.out HNL.out HTR.out (HS0.out.below HE.out) (by rw [List.length_take]; have := HQL.out; omega) HSL.out).mono ?_
    rintro e w2 ⟨rfl, hb⟩
    have HE := Lib.hid (HE.out.trans hb)
    have H1 := Lib.hid (ext_blk H1.out hb)
    have H2 := Lib.hid (ext_blk H2.out hb)
    have HTR := Lib.hid (HTR.out.below hb)
    have HBR := Lib.hid (HBR.out.below hb)
    clear hb st
    have HTL := Lib.hid (aeaTag_length kb nb (b.take q) s)
    generalize aeaTag kb nb (b.take q) s = tg at *
    have HZ := Lib.hid (Blk.made w2 (ints .u8 (List.replicate 16 0)) 43)
    have HEA := Lib.hid (Ext.alloc w2 (.cells (ints .u8 (List.replicate 16 0)).toArray 43))
    have HIT : Hid ((Try.prog.info? 43).map (·.size) = some (tg.map bval).length) := Lib.hid (tag_size HTL.out)
    have HLo : Hid ((tg.map bval).length = (ints .u8 (List.replicate 16 0)).length) := Lib.hid (by rw [List.length_map, HTL.out, ints_length, List.length_replicate])
    go_upto_region 5 with (refine wpList_store_blk rfl _ _ _ rfl w2.heap.size (tg.map bval) rfl rfl _ _ HZ.out HLo.out HIT.out (bval_one _) ?_; intro w3 hb3 hg3)
    have HE4 := Lib.hid (ext_grown HEA.out hg3 (Nat.le_refl _))
    have HE := Lib.hid (HE.out.trans HE4.out)
    have H1 := Lib.hid (ext_blk H1.out HE4.out)
    have H2 := Lib.hid (ext_blk H2.out HE4.out)
    have HTR := Lib.hid (HTR.out.below HE4.out)
    have HBR := Lib.hid (HBR.out.below HE4.out)
    obtain ⟨T, hT⟩ : ∃ T, T = w2.heap.size := ⟨_, rfl⟩
    rw [← hT] at hb3 ⊢
    have HT := Lib.hid hb3
    obtain ⟨vh, hh, sh⟩ := row_cut Try.underlying26 Try.sizeOf5 HBR.out q (by rw [List.length_map]; omega)
    obtain ⟨ah, nh, ch, rfl⟩ := row_form2 hh
    rw [← List.map_drop] at hh
    have HH := Lib.hid hh
    have HSH := Lib.hid sh
    clear hb3 hg3 HZ HEA HE4 HLo hT hh sh
    by_cases heq : tg = b.drop q
    · have HOS : Hid (openB kb nb b s = some (chaTurn kb 1 nb (b.take q))) := Lib.hid (by rw [HOP.out, if_pos heq])
      have B0 : Ext w3 w3.drew := Ext.drew _
      refine wp_region_held_drew (S := fun w' => Ext w3 w') (by kernel_rfl) B0 (fun hHeld => ?_)
      refine wpAnyH_take (i := 0) (v := .slice (some ⟨T, 0, none⟩) 16 16) rfl (by kernel_rfl) (by kernel_rfl) (by kernel_rfl) (fun _ _ _ h => h) (yi_slice _ _ _ _ (.pointer (some ⟨T, 0, none⟩)) (.slice (some ⟨T, 0, none⟩) 16 16) none none (by rfl) rfl rfl rfl rfl (fun w => cut_whole Try.underlying43 Try.sizeOf5 (by omega) _ w)) hHeld ?_
      simp only [Act.put, List.getElem_toArray, List.getElem_cons_zero, List.getElem_cons_succ, List.setIfInBounds_toArray, List.set_cons_zero, List.set_cons_succ]
      refine wpAnyH_take (i := 1) (v := .string ⟨(tg).toArray⟩) rfl (by kernel_rfl) (by kernel_rfl) (by kernel_rfl) (fun _ _ _ h => h) (yi_conv _ _ _ (.slice (some ⟨T, 0, none⟩) 16 16) _ (by rfl) rfl rfl (fun w h => run_string_row _ _ 5 Try.underlying26 Try.underlying5 Try.underlying9 ((blk_row (n := 16) HT.out (by rw [List.length_map]; exact HTL.out) (by unfold maxLen; omega)).below h))) hHeld ?_
      simp only [Act.put, List.getElem_toArray, List.getElem_cons_zero, List.getElem_cons_succ, List.setIfInBounds_toArray, List.set_cons_zero, List.set_cons_succ]
      refine wpAnyH_take (i := 2) (v := .slice ab b.length capb) rfl (by kernel_rfl) (by kernel_rfl) (by kernel_rfl) (fun _ _ _ h => h) (yi_move _ (.slice ab b.length capb) (by rfl) rfl rfl) hHeld ?_
      simp only [Act.put, List.getElem_toArray, List.getElem_cons_zero, List.getElem_cons_succ, List.setIfInBounds_toArray, List.set_cons_zero, List.set_cons_succ]
      refine wpAnyH_take (i := 3) (v := .slice ab b.length capb) rfl (by kernel_rfl) (by kernel_rfl) (by kernel_rfl) (fun _ _ _ h => h) (yi_move _ (.slice ab b.length capb) (by rfl) rfl rfl) hHeld ?_
      simp only [Act.put, List.getElem_toArray, List.getElem_cons_zero, List.getElem_cons_succ, List.setIfInBounds_toArray, List.set_cons_zero, List.set_cons_succ]
      refine wpAnyH_take (i := 4) (v := .int .i64 ((b.length : Nat) : Int)) rfl (by kernel_rfl) (by kernel_rfl) (by kernel_rfl) (fun _ _ _ h => h) (yi_len _ _ _ _ _ _ Try.underlying26 (by rfl) rfl rfl) hHeld ?_
      simp only [Act.put, List.getElem_toArray, List.getElem_cons_zero, List.getElem_cons_succ, List.setIfInBounds_toArray, List.set_cons_zero, List.set_cons_succ]
      refine wpAnyH_take (i := 5) (v := .int .i64 ((q : Nat) : Int)) rfl (by kernel_rfl) (by kernel_rfl) (by kernel_rfl) (fun _ _ _ h => h) (yi_sub .i64 _ _ _ _ _ _ ((q : Nat) : Int) HSUB.out (by rfl) rfl rfl rfl) hHeld ?_
      simp only [Act.put, List.getElem_toArray, List.getElem_cons_zero, List.getElem_cons_succ, List.setIfInBounds_toArray, List.set_cons_zero, List.set_cons_succ]
      refine wpAnyH_take (i := 6) (v := .slice ah nh ch) rfl (by kernel_rfl) (by kernel_rfl) (by kernel_rfl) (fun _ _ _ h => h) (yi_slice _ _ _ _ (.slice ab b.length capb) (.slice ah nh ch) (some (.int .i64 ((q : Nat) : Int))) none (by rfl) rfl rfl rfl rfl HSH.out) hHeld ?_
      simp only [Act.put, List.getElem_toArray, List.getElem_cons_zero, List.getElem_cons_succ, List.setIfInBounds_toArray, List.set_cons_zero, List.set_cons_succ]
      refine wpAnyH_take (i := 7) (v := .string ⟨(b.drop q).toArray⟩) rfl (by kernel_rfl) (by kernel_rfl) (by kernel_rfl) (fun _ _ _ h => h) (yi_conv _ _ _ (.slice ah nh ch) _ (by rfl) rfl rfl (fun w h => run_string_row _ _ 5 Try.underlying26 Try.underlying5 Try.underlying9 ((HH.out).below h))) hHeld ?_
      simp only [Act.put, List.getElem_toArray, List.getElem_cons_zero, List.getElem_cons_succ, List.setIfInBounds_toArray, List.set_cons_zero, List.set_cons_succ]
      refine wpAnyH_take (i := 8) (v := .bool false) rfl (by kernel_rfl) (by kernel_rfl) (by kernel_rfl) (fun _ _ _ h => h) (yi_net _ _ _ _ tg (b.drop q) false (decide_eq_true heq) (by rfl) rfl rfl rfl) hHeld ?_
      simp only [Act.put, List.getElem_toArray, List.getElem_cons_zero, List.getElem_cons_succ, List.setIfInBounds_toArray, List.set_cons_zero, List.set_cons_succ]
      refine wpAnyH_done (by kernel_rfl) ?_ _
      clear heq
      have HTR := Lib.hid (HTR.out.below B0)
      have H1 := Lib.hid (ext_blk H1.out B0)
      have H2 := Lib.hid (ext_blk H2.out B0)
      have HE := Lib.hid (HE.out.trans B0)
      go_wp2_with (first | (refine wpList_load_blk rfl _ _ rfl A rfl _ _ _ _ H1.out Try.underlying23 HIK.out ?_) | (refine wpList_load_blk rfl _ _ rfl (A + 1) rfl _ _ _ _ H2.out Try.underlying25 HIN.out ?_))
      refine (rTurn_any kb nb (b.take q) _ 1 w3.drew HKL.out HNL.out HTR.out (by rw [List.length_take]; have := HQL.out; omega) (by decide) (by decide)).mono ?_
      rintro e w5 ⟨x5, rfl, ho5, hb5⟩
      have HR5 := Lib.hid (Row1.of_own ho5)
      have HE := Lib.hid (HE.out.trans hb5)
      clear ho5 hb5
      go_wp2_with fail
      refine bodyPost_ret (res_two rfl _ _) rfl ?_
      exact ⟨_, by rw [HOS.out]; rfl, by rw [HOS.out]; exact HR5.out, HE.out⟩
    · have HOS : Hid (openB kb nb b s = none) := Lib.hid (by rw [HOP.out, if_neg heq])
      have B0 : Ext w3 w3.drew := Ext.drew _
      refine wp_region_held_drew (S := fun w' => Ext w3 w') (by kernel_rfl) B0 (fun hHeld => ?_)
      refine wpAnyH_take (i := 0) (v := .slice (some ⟨T, 0, none⟩) 16 16) rfl (by kernel_rfl) (by kernel_rfl) (by kernel_rfl) (fun _ _ _ h => h) (yi_slice _ _ _ _ (.pointer (some ⟨T, 0, none⟩)) (.slice (some ⟨T, 0, none⟩) 16 16) none none (by rfl) rfl rfl rfl rfl (fun w => cut_whole Try.underlying43 Try.sizeOf5 (by omega) _ w)) hHeld ?_
      simp only [Act.put, List.getElem_toArray, List.getElem_cons_zero, List.getElem_cons_succ, List.setIfInBounds_toArray, List.set_cons_zero, List.set_cons_succ]
      refine wpAnyH_take (i := 1) (v := .string ⟨(tg).toArray⟩) rfl (by kernel_rfl) (by kernel_rfl) (by kernel_rfl) (fun _ _ _ h => h) (yi_conv _ _ _ (.slice (some ⟨T, 0, none⟩) 16 16) _ (by rfl) rfl rfl (fun w h => run_string_row _ _ 5 Try.underlying26 Try.underlying5 Try.underlying9 ((blk_row (n := 16) HT.out (by rw [List.length_map]; exact HTL.out) (by unfold maxLen; omega)).below h))) hHeld ?_
      simp only [Act.put, List.getElem_toArray, List.getElem_cons_zero, List.getElem_cons_succ, List.setIfInBounds_toArray, List.set_cons_zero, List.set_cons_succ]
      refine wpAnyH_take (i := 2) (v := .slice ab b.length capb) rfl (by kernel_rfl) (by kernel_rfl) (by kernel_rfl) (fun _ _ _ h => h) (yi_move _ (.slice ab b.length capb) (by rfl) rfl rfl) hHeld ?_
      simp only [Act.put, List.getElem_toArray, List.getElem_cons_zero, List.getElem_cons_succ, List.setIfInBounds_toArray, List.set_cons_zero, List.set_cons_succ]
      refine wpAnyH_take (i := 3) (v := .slice ab b.length capb) rfl (by kernel_rfl) (by kernel_rfl) (by kernel_rfl) (fun _ _ _ h => h) (yi_move _ (.slice ab b.length capb) (by rfl) rfl rfl) hHeld ?_
      simp only [Act.put, List.getElem_toArray, List.getElem_cons_zero, List.getElem_cons_succ, List.setIfInBounds_toArray, List.set_cons_zero, List.set_cons_succ]
      refine wpAnyH_take (i := 4) (v := .int .i64 ((b.length : Nat) : Int)) rfl (by kernel_rfl) (by kernel_rfl) (by kernel_rfl) (fun _ _ _ h => h) (yi_len _ _ _ _ _ _ Try.underlying26 (by rfl) rfl rfl) hHeld ?_
      simp only [Act.put, List.getElem_toArray, List.getElem_cons_zero, List.getElem_cons_succ, List.setIfInBounds_toArray, List.set_cons_zero, List.set_cons_succ]
      refine wpAnyH_take (i := 5) (v := .int .i64 ((q : Nat) : Int)) rfl (by kernel_rfl) (by kernel_rfl) (by kernel_rfl) (fun _ _ _ h => h) (yi_sub .i64 _ _ _ _ _ _ ((q : Nat) : Int) HSUB.out (by rfl) rfl rfl rfl) hHeld ?_
      simp only [Act.put, List.getElem_toArray, List.getElem_cons_zero, List.getElem_cons_succ, List.setIfInBounds_toArray, List.set_cons_zero, List.set_cons_succ]
      refine wpAnyH_take (i := 6) (v := .slice ah nh ch) rfl (by kernel_rfl) (by kernel_rfl) (by kernel_rfl) (fun _ _ _ h => h) (yi_slice _ _ _ _ (.slice ab b.length capb) (.slice ah nh ch) (some (.int .i64 ((q : Nat) : Int))) none (by rfl) rfl rfl rfl rfl HSH.out) hHeld ?_
      simp only [Act.put, List.getElem_toArray, List.getElem_cons_zero, List.getElem_cons_succ, List.setIfInBounds_toArray, List.set_cons_zero, List.set_cons_succ]
      refine wpAnyH_take (i := 7) (v := .string ⟨(b.drop q).toArray⟩) rfl (by kernel_rfl) (by kernel_rfl) (by kernel_rfl) (fun _ _ _ h => h) (yi_conv _ _ _ (.slice ah nh ch) _ (by rfl) rfl rfl (fun w h => run_string_row _ _ 5 Try.underlying26 Try.underlying5 Try.underlying9 ((HH.out).below h))) hHeld ?_
      simp only [Act.put, List.getElem_toArray, List.getElem_cons_zero, List.getElem_cons_succ, List.setIfInBounds_toArray, List.set_cons_zero, List.set_cons_succ]
      refine wpAnyH_take (i := 8) (v := .bool true) rfl (by kernel_rfl) (by kernel_rfl) (by kernel_rfl) (fun _ _ _ h => h) (yi_net _ _ _ _ tg (b.drop q) true (decide_eq_false heq) (by rfl) rfl rfl rfl) hHeld ?_
      simp only [Act.put, List.getElem_toArray, List.getElem_cons_zero, List.getElem_cons_succ, List.setIfInBounds_toArray, List.set_cons_zero, List.set_cons_succ]
      refine wpAnyH_done (by kernel_rfl) ?_ _
      clear heq
      go_wp2_with fail
      refine bodyPost_ret (res_two rfl _ _) rfl ?_
      exact ⟨_, by rw [HOS.out]; rfl, by rw [HOS.out]; exact Row1.nil _, HE.out.trans B0⟩

end Go.Proofs.Ytflefkmpllbeeaa

/- Worlds in which nothing of before has changed but, it may be, one block. Nothing here speaks of a program. Each theorem names its own conditions. -/
namespace Go.Proofs.Ytflefkmpllbeeaa
open Go.RowKit

def Far (c : Nat) (w w' : World) : Prop := ∃ wx, Ext w wx ∧ (w' = wx ∨ wx.grownBy w' (some c))
theorem fars_ext {c : Nat} {w w' : World} (h : Ext w w') : Far c w w' := ⟨w', h, Or.inl rfl⟩
theorem fars_put {c : Nat} {w wx w' : World} (h : Ext w wx) (g : wx.grownBy w' (some c)) : Far c w w' := ⟨wx, h, Or.inr g⟩
theorem fars_range {c a : Nat} {w w' : World} {cs : List Value} {t : TypeId} (H : Blk w a cs t) (ha : c ≠ a) (h : Far c w w') : w'.rangeAt a 0 cs := by
  obtain ⟨wx, h1, h2⟩ := h
  rcases h2 with h2 | h2
  · rw [h2]
    exact bl_range H h1
  · exact ((ext_blk H h1).grown h2 (by simp; omega)).range

end Go.Proofs.Ytflefkmpllbeeaa
