/- CurveMaps: part 16. -/
import Derived.Test.YtananlhdmekmjaaGreatKCurveMaps15
set_option linter.unusedVariables false
set_option maxRecDepth 100000
set_option maxHeartbeats 16000000
variable {w:Go.World}
variable {s_p t_p:Bool} {A_p B_p E_p F_p:Option Go.Addr} {n_p c_p m_p d_p i_p e_p j_p f_p:Nat}
namespace Go.Proofs.YtananlhdmekmjaaGreat
open Go Go.RowKit
theorem law_maps13 {m:MV} {l1 l2 l3 l4:List Nat} (u:SV8) (a1:Rd .u64 w A_p n_p l1) (b1:Lim B64 l1) (c1:n_p≤c_p) (a2:Rd .u64 w B_p m_p l2) (b2:Lim B64 l2) (c2:m_p≤d_p) (a3:Rd .u64 w E_p i_p l3) (b3:Lim B64 l3) (c3:i_p≤e_p) (a4:Rd .u64 w F_p j_p l4) (b4:Lim B64 l4) (c4:j_p≤f_p) (hin:u.In) (hm:MRows w m) :
 Calls Tryz.prog 6 #[.agg #[.bool s_p,.slice A_p n_p c_p,.slice B_p m_p d_p,.bool t_p,.slice E_p i_p e_p,.slice F_p j_p f_p],.agg #[.int .i64 u.k,.int .i64 u.v0,.int .i64 u.v1,.int .i64 u.v2,.int .i64 u.v3,.int .i64 u.v4,.int .i64 u.v5,.int .i64 u.w],.agg #[.bool m.a.s,.slice m.a.A m.a.n m.a.c,.slice m.a.B m.a.m m.a.d,.bool m.b.s,.slice m.b.A m.b.n m.b.c,.slice m.b.B m.b.m m.b.d,.bool m.c.s,.slice m.c.A m.c.n m.c.c,.slice m.c.B m.c.m m.c.d,.bool m.d.s,.slice m.d.A m.d.n m.d.c,.slice m.d.B m.d.m m.d.d,.bool m.e.s,.slice m.e.A m.e.n m.e.c,.slice m.e.B m.e.m m.e.d,.bool m.f.s,.slice m.f.A m.f.n m.f.c,.slice m.f.B m.f.m m.f.d]] w fun e w'=>e=.returned (.bool true)∧Below w.heap.size w w':=by
 obtain ⟨v,hv⟩:=hm.mr
 by_cases h1:((n_p≤6∧m_p≤6)∧i_p≤6∧j_p≤6)
 · by_cases h2:((((m.a.n≤6∧m.a.m≤6)∧m.b.n≤6∧m.b.m≤6))∧(((m.c.n≤6∧m.c.m≤6)∧m.d.n≤6∧m.d.m≤6))∧(((m.e.n≤6∧m.e.m≤6)∧m.f.n≤6∧m.f.m≤6)))
   · have p:=And.intro (QR.of_rd (s:=s_p) a1 b1 c1 a2 b2 c2 h1.1.1 h1.1.2) (QR.of_rd (s:=t_p) a3 b3 c3 a4 b4 c4 h1.2.1 h1.2.2)
     by_cases hd:u.draws
     · exact maps_p u (hv h2) p h1 h2 hin hd
     · exact maps_e u (hv h2) p h1 h2 hin hd
   · exact maps_l1 u h1 h2
 · exact maps_l0 u h1
end Go.Proofs.YtananlhdmekmjaaGreat
