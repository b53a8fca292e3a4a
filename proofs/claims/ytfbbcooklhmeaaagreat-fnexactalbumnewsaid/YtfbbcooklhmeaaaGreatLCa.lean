/- Of the proof: PBd -/
import Derived.Test.YtfbbcooklhmeaaaGreatLBz
set_option maxHeartbeats 4000000
set_option linter.unusedVariables false
namespace Go.Proofs.YtfbbcooklhmeaaaGreat
namespace Sp
open Go.RowKit
attribute [local go_sem ↓] Go.wp_at_zero Go.wp_at_succ
set_option maxRecDepth 100000 in
theorem zf6 (wd:Int) (a:Option Addr) (cap:Nat) (cs:List (Int × Int)) (w:World) (hC:zai w a cs) (hm:cs.length<=9223372036854775807) :
  Calls SqP.prog 3 #[.agg #[.int .i64 wd,.slice a cs.length cap]] w fun e w'=>e=.returned (.bool true)/\Below w.heap.size w w':=by
 by_cases hbig:(1048576:Int) - cs.length < 0
 ·go_enter SqP.func3,Tryz.ntmps3
  go_wp2_with fail
  refine (zgD _ _ _ _ _ _ hm (by omega)).mono ?_
  rintro e w1 ⟨rfl,hb1⟩
  go_wp2
  go_ret
  exact ⟨rfl,zak bel (by simp) hb1⟩
 have hm2:cs.length<=1048576:=by omega
 obtain ⟨tw,tc,M,l,n,f,ok,hlen,hM,hn,ci,cp⟩:=zpM wd cs hm2
 obtain ⟨N,hN⟩:∃ N,tc.length=N:=⟨_,rfl⟩
 have CS:Hid (∀ (a:Option Addr) (cap:Nat) (w:World),zai w a cs->Calls SqP.prog 5 #[.agg #[.int .i64 wd,.slice a cs.length cap]] w (zqq w tw N tc M l n f ok)):=fun a cap w h=>hN ▸ cp a cap w h
 have CI:Hid (∀ (a:Option Addr) (cap:Nat) (w:World),zai w a cs->Calls SqP.prog 7 #[.agg #[.int .i64 wd,.slice a cs.length cap]] w (zqq w tw N tc M l n f ok)):=fun a cap w h=>hN ▸ ci a cap w h
 have hN25:N<=25:=by omega
 obtain ⟨k1,ek1⟩:∃ k1:Int,k1=1 + 2 * (N:Int):=⟨_,rfl⟩
 obtain ⟨k2,ek2⟩:∃ k2:Int,k2=k1 + 1 * (M:Int):=⟨_,rfl⟩
 obtain ⟨k3,ek3⟩:∃ k3:Int,k3=k2 + (zb1 n M:Int):=⟨_,rfl⟩
 have m0:¬ (k3 < 0):=by omega
 have m1:(k3 != k3)=false:=by simp
 have HN:Hid (tc.length=N):=hN
 have HK:Hid (k1=1 + 2 * (N:Int)/\k2=k1 + 1 * (M:Int)/\k3=k2 + (zb1 n M:Int)):=⟨ek1,ek2,ek3⟩
 have heq2:eqG wd wd cs cs=true:=by simp [eqG]
 have eok:(ok != ok)=false:=by simp
 clear ci cp hN hlen ek1 ek2 ek3
 go_enter SqP.func3,Tryz.ntmps3
 go_wp2_with fail
 refine (zgD _ _ _ _ _ _ hm (by omega)).mono ?_
 rintro e w1 ⟨rfl,hb1⟩
 have hz1:=hb1.size
 simp at hz1
 have hB1:Below w.heap.size w w1:=zak bel (by simp) hb1
 have p0:w1.cell? ⟨w.heap.size,0,none⟩=some (.int .i64 wd):=zab hb1 (by simp [go_sem])
 have p1:w1.cell? ⟨w.heap.size,1,none⟩=some (.slice a cs.length cap):=zab hb1 (by simp [go_sem])
 clear hb1
 go_wp2_with fail
 refine (zda _ _ _ cs _ (hC.below hB1) hm2).mono ?_
 rintro e w2 ⟨g2,rfl,hO2,hb2⟩
 have hz2:=hb2.size
 have hB2:Below w.heap.size w w2:=zak hB1 (by omega) hb2
 replace p0:=zab hb2 p0; replace p1:=zab hb2 p1
 obtain ⟨a2,c2,e2,hC2⟩:=hO2.slice
 simp only [Value.slice.injEq] at e2
 obtain ⟨rfl,_,rfl⟩:=e2
 clear hb2 hO2
 go_wp2_with fail
 refine (CS.out _ _ _ hC2).mono ?_
 rintro e w3 ⟨a3,b3,e3,c3,d3,f3,r3,s3,pa3,pc3,na3,nc3,rfl,hK3,hb3⟩
 have hz3:=hb3.size
 have hB3:Below w.heap.size w w3:=zak hB2 (by omega) hb3
 replace p0:=zab hb3 p0; replace p1:=zab hb3 p1
 clear hb3 hC2
 have hbX:Below w3.heap.size w3 (w3.alloc (.cells #[.int .i64 tw,.slice a3 N c3,.slice b3 M d3,.slice e3 M f3,.slice pa3 0 pc3,.slice na3 0 nc3] 35)):=bel
 replace hK3:=hK3.below hbX
 obtain ⟨q0,q1,q2,q3,q4,q5⟩:=zrw w3 (.int .i64 tw) (.slice a3 N c3) (.slice b3 M d3) (.slice e3 M f3) (.slice pa3 0 pc3) (.slice na3 0 nc3) 35
 have hBX:=zak hB3 (by omega) hbX
 have z3:w.heap.size < w3.heap.size:=by omega
 have hp0:=zab hbX p0
 have hp1:=zab hbX p1
 go_wp2_with fail
 refine (zda _ _ _ cs _ (hC.below hBX) hm2).mono ?_
 rintro e w4 ⟨gx,rfl,hOx,hb4⟩
 have hz4:=hb4.size
 simp at hz4
 have hB4:Below w.heap.size w w4:=zak hBX (by simp; omega) hb4
 replace hK3:=hK3.below hb4
 have Rx:=hOx.lt
 simp at Rx
 replace p0:=zab hb4 hp0
 replace p1:=zab hb4 hp1
 replace q0:=zab hb4 q0; replace q1:=zab hb4 q1; replace q2:=zab hb4 q2; replace q3:=zab hb4 q3; replace q4:=zab hb4 q4; replace q5:=zab hb4 q5
 clear hb4 hbX hBX hp0 hp1
 have hbY:Below w4.heap.size w4 (w4.alloc (.cells #[.int .i64 wd,.slice (some ⟨gx,0,none⟩) cs.length cs.length] 28)):=bel
 have hOxY:=hOx.below hbY
 obtain ⟨ax,cx,ex,hCx⟩:=hOxY.slice
 simp only [Value.slice.injEq] at ex
 obtain ⟨rfl,_,rfl⟩:=ex
 have z4:w.heap.size < w4.heap.size:=by omega
 have z4':w3.heap.size < w4.heap.size:=by omega
 go_wp2_with fail
 refine (CI.out _ _ _ hCx).mono ?_
 rintro e w5 ⟨a5,b5,e5,c5,d5,f5,r5,s5,pa5,pc5,na5,nc5,rfl,hK5,hb5⟩
 have hz5:=hb5.size
 simp at hz5
 simp only [World.size_alloc] at hK5
 have r0:w5.cell? ⟨w4.heap.size,0,none⟩=some (.int .i64 wd):=zab hb5 (by simp [go_sem])
 have r1:w5.cell? ⟨w4.heap.size,1,none⟩=some (.slice (some ⟨gx,0,none⟩) cs.length cs.length):=zab hb5 (by simp [go_sem])
 have hb45:Below w4.heap.size w4 w5:=zak hbY (by simp) hb5
 have hB5:Below w.heap.size w w5:=zak hB4 (by omega) hb45
 replace hK3:=hK3.below hb45
 replace hOx:=hOx.below hb45
 replace p0:=zab hb45 p0; replace p1:=zab hb45 p1; replace q0:=zab hb45 q0; replace q1:=zab hb45 q1; replace q2:=zab hb45 q2; replace q3:=zab hb45 q3; replace q4:=zab hb45 q4; replace q5:=zab hb45 q5
 clear hb5 hbY hb45 hOxY hCx
 have hbZ:Below w5.heap.size w5 (w5.alloc (.cells #[.int .i64 tw,.slice a5 N c5,.slice b5 M d5,.slice e5 M f5,.slice pa5 0 pc5,.slice na5 0 nc5] 35)):=bel
 obtain ⟨u0,u1,u2,u3,u4,u5⟩:=zrw w5 (.int .i64 tw) (.slice a5 N c5) (.slice b5 M d5) (.slice e5 M f5) (.slice pa5 0 pc5) (.slice na5 0 nc5) 35
 have z5:w.heap.size < w5.heap.size:=by omega
 have z5':w3.heap.size < w5.heap.size:=by omega
 have z5'':w4.heap.size < w5.heap.size:=by omega
 replace hK3:=hK3.below hbZ
 replace hK5:=hK5.below hbZ
 replace hOx:=hOx.below hbZ
 have P0:=zab hbZ p0
 have P1:=zab hbZ p1
 have Q0:=zab hbZ q0
 have Q1:=zab hbZ q1
 have Q2:=zab hbZ q2
 have Q3:=zab hbZ q3
 have Q4:=zab hbZ q4
 have Q5:=zab hbZ q5
 have R0:=zab hbZ r0
 have R1:=zab hbZ r1
 have hB5Z:=zak hB5 (by omega) hbZ
 go_wp2_with fail
 refine (zrp hK5 hK3 HN.out hN25 hM hn).mono ?_
 rintro e w6 ⟨rfl,hb6⟩
 have hz6:=hb6.size
 simp at hz6
 replace p0:=P0
 replace p1:=P1
 replace q0:=Q0
 replace q1:=Q1
 replace q2:=Q2
 replace q3:=Q3
 replace q4:=Q4
 replace q5:=Q5
 replace r0:=R0
 replace r1:=R1
 have hB6:Below w.heap.size w w6:=zak hB5Z (by simp; omega) hb6
 replace hK3:=hK3.below hb6
 replace hK5:=hK5.below hb6
 replace hOx:=hOx.below hb6
 replace p0:=zab hb6 p0; replace p1:=zab hb6 p1; replace q0:=zab hb6 q0; replace q1:=zab hb6 q1; replace q2:=zab hb6 q2; replace q3:=zab hb6 q3; replace q4:=zab hb6 q4; replace q5:=zab hb6 q5; replace r0:=zab hb6 r0; replace r1:=zab hb6 r1; replace u0:=zab hb6 u0; replace u1:=zab hb6 u1; replace u2:=zab hb6 u2; replace u3:=zab hb6 u3; replace u4:=zab hb6 u4; replace u5:=zab hb6 u5
 clear hb6 hbZ hB5Z P0 P1 Q0 Q1 Q2 Q3 Q4 Q5 R0 R1
 go_wp2
 go_region_held3 (fun w'=>w'.cell? ⟨w4.heap.size,0,none⟩=some (.int .i64 wd)/\w'.cell? ⟨w4.heap.size,1,none⟩=some (.slice (some ⟨gx,0,none⟩) cs.length cs.length)/\w'.cell? ⟨w.heap.size,0,none⟩=some (.int .i64 wd)/\w'.cell? ⟨w.heap.size,1,none⟩=some (.slice a cs.length cap))
  (first
   | exact ⟨zab hb8 (zab hb7 r0),zab hb8 (zab hb7 r1),zab hb8 (zab hb7 p0),zab hb8 (zab hb7 p1)⟩
   | exact ⟨zab hb7 r0,zab hb7 r1,zab hb7 p0,zab hb7 p1⟩
   | go_keep)
  (first
   | (go_at_call 6; refine (zda _ _ _ cs _ (hC.below (by first | exact hB6 | exact hB6.drew)) hm2).mono ?_; rintro e w7 ⟨g7,rfl,hO7,hb7'⟩; have hb7:Below w6.heap.size w6 w7:=(by first | exact hb7' | exact zce hb7'))
   | (go_at_call 9; refine (zkI _ _ _ _ _ _ cs cs _ (hOx.below hb7) hO7 hm2 hm2).mono ?_; rintro e w8 ⟨rfl,hb8'⟩; have hb8:Below w7.heap.size w7 w8:=(by first | exact hb8' | exact zce hb8'))
   | fail)
 have hb68:Below w6.heap.size w6 w8:=zak hb7 hb7.size hb8
 have hz8:=hb68.size
 have hB8:Below w.heap.size w w8:=zak hB6 (by omega) hb68
 replace hK3:=hK3.below hb68
 replace hK5:=hK5.below hb68
 replace hOx:=hOx.below hb68
 replace p0:=zab hb68 p0; replace p1:=zab hb68 p1; replace q0:=zab hb68 q0; replace q1:=zab hb68 q1; replace q2:=zab hb68 q2; replace q3:=zab hb68 q3; replace q4:=zab hb68 q4; replace q5:=zab hb68 q5; replace r0:=zab hb68 r0; replace r1:=zab hb68 r1; replace u0:=zab hb68 u0; replace u1:=zab hb68 u1; replace u2:=zab hb68 u2; replace u3:=zab hb68 u3; replace u4:=zab hb68 u4; replace u5:=zab hb68 u5
 clear hb7 hb7' hb8 hb8' hO7 hb68
 have bk:decide ((1:Int) + 2 * (cs.length:Int) < 0)=false:=decide_eq_false (by omega)
 go_wp2_with fail
 refine (zes _ _ _ _ cs _ hOx hm2 (by omega)).mono ?_
 rintro e w9 ⟨rfl,_,hg9⟩
 have hz9:=hg9.size
 have ho9:zbn (fun e=>e=gx) w8 w9:=(zbn.refl _ _).grown hg9 (fun b e=>by simp [Value.ownBlock] at e; omega)
 have hB9:Below w.heap.size w w9:=ho9.below hB8 (fun e q=>by omega) (by omega)
 replace hK3:=hK3.off ho9 (fun e h1 h2 h3=>by omega)
 replace hK5:=hK5.off ho9 (fun e h1 h2 h3=>by omega)
 have n1:¬ (w.heap.size=gx):=by omega
 have n2:¬ (w3.heap.size=gx):=by omega
 have n3:¬ (w5.heap.size=gx):=by omega
 replace p0:=ho9.cell n1 p0
 replace p1:=ho9.cell n1 p1
 replace q0:=ho9.cell n2 q0
 replace q1:=ho9.cell n2 q1
 replace q2:=ho9.cell n2 q2
 replace q3:=ho9.cell n2 q3
 replace q4:=ho9.cell n2 q4
 replace q5:=ho9.cell n2 q5
 replace u0:=ho9.cell n3 u0
 replace u1:=ho9.cell n3 u1
 replace u2:=ho9.cell n3 u2
 replace u3:=ho9.cell n3 u3
 replace u4:=ho9.cell n3 u4
 replace u5:=ho9.cell n3 u5
 clear hg9 ho9 n1 n2 n3 hOx r0 r1
 go_wp2_with fail
 refine (zrp hK5 hK3 HN.out hN25 hM hn).mono ?_
 rintro e w10 ⟨rfl,hb10⟩
 have hz10:=hb10.size
 have hB10:Below w.heap.size w w10:=zak hB9 (by omega) hb10
 replace hK3:=hK3.below hb10
 replace hK5:=hK5.below hb10
 replace p0:=zab hb10 p0; replace p1:=zab hb10 p1; replace q0:=zab hb10 q0; replace q1:=zab hb10 q1; replace q2:=zab hb10 q2; replace q3:=zab hb10 q3; replace q4:=zab hb10 q4; replace q5:=zab hb10 q5; replace u0:=zab hb10 u0; replace u1:=zab hb10 u1; replace u2:=zab hb10 u2; replace u3:=zab hb10 u3; replace u4:=zab hb10 u4; replace u5:=zab hb10 u5
 clear hb10
 go_wp2_with fail
 refine (zqK hK5 HN.out hN25 hM hn HK.out.1 HK.out.2.1 HK.out.2.2).mono ?_
 rintro e w11 ⟨rfl,hQ,ho11⟩
 have hz11:=ho11.size
 have hB11:Below w.heap.size w w11:=ho11.below hB10 (fun e q=>by omega) (by omega)
 replace hK3:=hK3.off ho11 (fun e h1 h2 h3=>by omega)
 have n1:¬ (w4.heap.size + 1<=w.heap.size/\w.heap.size < w5.heap.size):=by omega
 have n2:¬ (w4.heap.size + 1<=w3.heap.size/\w3.heap.size < w5.heap.size):=by omega
 have n3:¬ (w4.heap.size + 1<=w5.heap.size/\w5.heap.size < w5.heap.size):=by omega
 replace p0:=ho11.cell n1 p0
 replace p1:=ho11.cell n1 p1
 replace q0:=ho11.cell n2 q0
 replace q1:=ho11.cell n2 q1
 replace q2:=ho11.cell n2 q2
 replace q3:=ho11.cell n2 q3
 replace q4:=ho11.cell n2 q4
 replace q5:=ho11.cell n2 q5
 replace u0:=ho11.cell n3 u0
 replace u1:=ho11.cell n3 u1
 replace u2:=ho11.cell n3 u2
 replace u3:=ho11.cell n3 u3
 replace u4:=ho11.cell n3 u4
 replace u5:=ho11.cell n3 u5
 clear ho11 n1 n2 n3 hK5
 go_wp2_with fail
 refine (zps hQ hN25 hM hn HK.out.1 HK.out.2.1 HK.out.2.2).mono ?_
 rintro e w12 ⟨rfl,hb12⟩
 have hz12:=hb12.size
 have hB12:Below w.heap.size w w12:=zak hB11 (by omega) hb12
 replace hK3:=hK3.below hb12
 replace hQ:=hQ.below hb12
 replace p0:=zab hb12 p0; replace p1:=zab hb12 p1; replace q0:=zab hb12 q0; replace q1:=zab hb12 q1; replace q2:=zab hb12 q2; replace q3:=zab hb12 q3; replace q4:=zab hb12 q4; replace q5:=zab hb12 q5; replace u0:=zab hb12 u0; replace u1:=zab hb12 u1; replace u2:=zab hb12 u2; replace u3:=zab hb12 u3; replace u4:=zab hb12 u4; replace u5:=zab hb12 u5
 clear hb12
 go_wp2_with fail
 refine (zda _ _ _ cs _ (hC.below hB12) hm2).mono ?_
 rintro e w13 ⟨g13,rfl,hO13,hb13⟩
 have hz13:=hb13.size
 have hB13:Below w.heap.size w w13:=zak hB12 (by omega) hb13
 obtain ⟨a13,c13,e13,hC13⟩:=hO13.slice
 simp only [Value.slice.injEq] at e13
 obtain ⟨rfl,_,rfl⟩:=e13
 replace hK3:=hK3.below hb13
 replace hQ:=hQ.below hb13
 replace p0:=zab hb13 p0; replace p1:=zab hb13 p1; replace q0:=zab hb13 q0; replace q1:=zab hb13 q1; replace q2:=zab hb13 q2; replace q3:=zab hb13 q3; replace q4:=zab hb13 q4; replace q5:=zab hb13 q5; replace u0:=zab hb13 u0; replace u1:=zab hb13 u1; replace u2:=zab hb13 u2; replace u3:=zab hb13 u3; replace u4:=zab hb13 u4; replace u5:=zab hb13 u5
 clear hb13 hO13
 go_wp2_with fail
 refine (CI.out _ _ _ hC13).mono ?_
 rintro e w14 ⟨a9,b9,e9,c9,d9,f9,r9,s9,pa9,pc9,na9,nc9,rfl,hK9,hb14⟩
 have hz14:=hb14.size
 have hB14:Below w.heap.size w w14:=zak hB13 (by omega) hb14
 replace hK3:=hK3.below hb14
 replace hQ:=hQ.below hb14
 replace p0:=zab hb14 p0; replace p1:=zab hb14 p1; replace q0:=zab hb14 q0; replace q1:=zab hb14 q1; replace q2:=zab hb14 q2; replace q3:=zab hb14 q3; replace q4:=zab hb14 q4; replace q5:=zab hb14 q5; replace u0:=zab hb14 u0; replace u1:=zab hb14 u1; replace u2:=zab hb14 u2; replace u3:=zab hb14 u3; replace u4:=zab hb14 u4; replace u5:=zab hb14 u5
 clear hb14 hC13
 have hbV:Below w14.heap.size w14 (w14.alloc (.cells #[.int .i64 tw,.slice a9 N c9,.slice b9 M d9,.slice e9 M f9,.slice pa9 0 pc9,.slice na9 0 nc9] 35)):=bel
 have z1:w.heap.size < w14.heap.size:=by omega
 have z2:w3.heap.size < w14.heap.size:=by omega
 have z3x:w5.heap.size < w14.heap.size:=by omega
 go_wp2_with fail
 refine (zrp (hK9.below hbV) (hK3.below hbV) HN.out hN25 hM hn).mono ?_
 rintro e w15 ⟨rfl,hb15⟩
 have hb1415:Below w14.heap.size w14 w15:=zak hbV (by simp) hb15
 have hz15:=hb1415.size
 have hB15:Below w.heap.size w w15:=zak hB14 (by omega) hb1415
 replace hQ:=hQ.below hb1415
 replace u0:=zab hb1415 u0; replace u1:=zab hb1415 u1; replace u2:=zab hb1415 u2; replace u3:=zab hb1415 u3; replace u4:=zab hb1415 u4; replace u5:=zab hb1415 u5
 clear hb15 hbV hb1415 hK9 hK3 p0 p1 q0 q1 q2 q3 q4 q5
 go_wp2_with fail
 refine (zps hQ hN25 hM hn HK.out.1 HK.out.2.1 HK.out.2.2).mono ?_
 rintro e w16 ⟨rfl,hb16⟩
 have hB16:Below w.heap.size w w16:=zak hB15 (by omega) hb16
 go_wp2
 go_ret
 exact ⟨rfl,hB16⟩
end Sp
end Go.Proofs.YtfbbcooklhmeaaaGreat
