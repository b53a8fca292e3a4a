/- Of the proof: Qt -/
import Derived.Test.YtfbbcooklhmeaaaGreatLBq
set_option maxHeartbeats 2000000
set_option linter.unusedVariables false
namespace Go.Proofs.YtfbbcooklhmeaaaGreat
variable {gl:List (Int × Int)} {C:Nat->Nat} {ga:Option Addr}
section
open Go Go.Conc Go.ConcN Go.RowKit Go.ConcR.Gen
theorem zpr {w w1 w2:World} (h:Below w.heap.size w w1) (h2:Below w1.heap.size w1 w2):Below w.heap.size w w2:=⟨h2.os.trans h.os,h2.tape.trans h.tape,h2.output.trans h.output,Nat.le_trans h.size h2.size,fun k hk=>(h2.block k (nll hk h.size)).trans (h.block k hk)⟩
theorem znu (v:Value):#[v] ++ Array.replicate (22 - #[v].size) undef=#[v,undef,undef,undef,undef,undef,undef,undef,undef,undef,undef,undef,undef,undef,undef,undef,undef,undef,undef,undef,undef,undef]:=by kernel_rfl
section
variable {FinP:Frame->World->Prop} {c:Frame} {cs:List Frame}
set_option maxRecDepth 100000 in
theorem zq0 {wd:Int} {cap:Nat} {wl:World} (hCl:Sp.zai wl ga gl) (hk:Sp.okG wd gl=true) (hn:gl.length<=25) (hl:0 < gl.length) {M:Nat} (hM:Sp.zcg wd gl=(M:Int)) (hM20:M<=20) (hC:∀ k,k < M->1<=C k/\C k<=maxLen/\(Sp.za0 wd gl (k:Int)).length<=C k)
  (tr:zbW SqP.prog FinP (Frame.enter SqP.prog 16 #[.agg #[.int .i64 wd,.slice ga gl.length cap]] .normal) (c :: cs) wl) :
  ∃ (wl':World) (gc bl bf:Nat) (arrL arrF:Array Value) (xs:Nat->Value),ScI wl wl' wd gl M gc bl bf M C arrL arrF xs /\
   zcj SqP.prog (Frame.enter SqP.prog 16 #[.agg #[.int .i64 wd,.slice ga gl.length cap]] .normal) (c :: cs) wl (c.finish (.tuple #[.agg #[.int .i64 wd,.slice (some ⟨gc,0,none⟩) gl.length gl.length,.slice (some ⟨bl,0,none⟩) M M,.slice (some ⟨bf,0,none⟩) M M],.bool true])) cs wl':=by
 rw [enter_at _ SqP.func16 SqP.body16,SqP.ntmps16,znu] at tr ⊢
 have d0:zcj SqP.prog ((base 16).at ⟨#[.agg #[.int .i64 wd,.slice ga gl.length cap],undef,undef,undef,undef,undef,undef,undef,undef,undef,undef,undef,undef,undef,undef,undef,undef,undef,undef,undef,undef,undef],[]⟩ [.code zpR]) (c :: cs) wl ((base 16).at ⟨#[.agg #[.int .i64 wd,.slice ga gl.length cap],undef,undef,undef,undef,undef,undef,undef,undef,undef,undef,undef,undef,undef,undef,undef,undef,undef,undef,undef,undef,undef],[]⟩ [.code (ziS .skip),.code zgv]) (c :: cs) wl:=zcj.ctl (fun _ _=>stepG_seq)
 have t0:=tr.desc d0
 obtain ⟨a1,w1,⟨u1,u2,u3,u4,u5,u6,u7,u8,u9,u10,u11,u12,u13,u14,u15,u16,u17,u18,u19,u20,u21,rfl,hb1⟩,d1⟩:=zhu (Post:=fun a' w'=>∃ u1 u2 u3 u4 u5 u6 u7 u8 u9 u10 u11 u12 u13 u14 u15 u16 u17 u18 u19 u20 u21,a'=⟨#[.agg #[.int .i64 wd,.slice ga gl.length cap],u1,u2,u3,u4,u5,u6,u7,u8,u9,u10,u11,u12,u13,u14,u15,u16,u17,u18,u19,u20,u21],[]⟩/\Below wl.heap.size wl w') t0 wl.tape wl.drawn (Sp.zpS wd ga cap gl wl hCl (by omega) (fun w' u1 u2 u3 u4 u5 u6 u7 u8 u9 u10 u11 u12 u13 u14 u15 u16 u17 u18 u19 u20 u21 hb=>wp_skip ⟨rfl,u1,u2,u3,u4,u5,u6,u7,u8,u9,u10,u11,u12,u13,u14,u15,u16,u17,u18,u19,u20,u21,rfl,hb⟩))
 have t1:=t0.desc d1
 have d2:zcj SqP.prog ((base 16).at ⟨#[.agg #[.int .i64 wd,.slice ga gl.length cap],u1,u2,u3,u4,u5,u6,u7,u8,u9,u10,u11,u12,u13,u14,u15,u16,u17,u18,u19,u20,u21],[]⟩ [.code zgv]) (c :: cs) w1 ((base 16).at ⟨#[.agg #[.int .i64 wd,.slice ga gl.length cap],u1,u2,u3,u4,u5,u6,u7,u8,u9,u10,u11,u12,u13,u14,u15,u16,u17,u18,u19,u20,u21],[]⟩ [.code scG,.code (.seq (.cond (.tmp 3) .skip scN) (.seq scA (.seq (.block 1 (.loop scL)) (.seq scZ .ret))))]) (c :: cs) w1:=zcj.ctl (fun _ _=>stepG_seq)
 have t2:=t1.desc d2
 have hC1:=hCl.below hb1
 obtain ⟨a2,w2,⟨rfl,hb2⟩,d3⟩:=zhu (Post:=fun a' w'=>a'=⟨#[.agg #[.int .i64 wd,.slice ga gl.length cap],u1,u2,.bool true,u4,u5,u6,u7,u8,u9,u10,u11,u12,u13,u14,u15,u16,u17,u18,u19,u20,u21],[]⟩/\Below w1.heap.size w1 w') t2 w1.tape w1.drawn (Sp.zpB wd ga cap gl w1 hC1 (by omega) hk u1 u2 u3 u4 u5 u6 u7 u8 u9 u10 u11 u12 u13 u14 u15 u16 u17 u18 u19 u20 u21 (fun w' hb=>⟨rfl,rfl,hb⟩))
 have t3:=t2.desc d3
 have hB2:=zpr hb1 hb2
 have hC2:=hCl.below hB2
 have d4:zcj SqP.prog ((base 16).at ⟨#[.agg #[.int .i64 wd,.slice ga gl.length cap],u1,u2,.bool true,u4,u5,u6,u7,u8,u9,u10,u11,u12,u13,u14,u15,u16,u17,u18,u19,u20,u21],[]⟩ [.code (.seq (.cond (.tmp 3) .skip scN) (.seq scA (.seq (.block 1 (.loop scL)) (.seq scZ .ret))))]) (c :: cs) w2 ((base 16).at ⟨#[.agg #[.int .i64 wd,.slice ga gl.length cap],u1,u2,.bool true,u4,u5,u6,u7,u8,u9,u10,u11,u12,u13,u14,u15,u16,u17,u18,u19,u20,u21],[]⟩ [.code scA,.code (.seq (.block 1 (.loop scL)) (.seq scZ .ret))]) (c :: cs) w2:=by
  refine (zcj.ctl (fun _ _=>stepG_seq)).trans ((zcj.ctl (fr1:=(base 16).at ⟨#[.agg #[.int .i64 wd,.slice ga gl.length cap],u1,u2,.bool true,u4,u5,u6,u7,u8,u9,u10,u11,u12,u13,u14,u15,u16,u17,u18,u19,u20,u21],[]⟩ [.code .skip,.code (.seq scA (.seq (.block 1 (.loop scL)) (.seq scZ .ret)))]) (fun _ _=>stepG_cond (t:=true) rfl)).trans ((zcj.ctl (fun _ _=>stepG_skip)).trans (zcj.ctl (fun _ _=>stepG_seq))))
 have t4:=t3.desc d4
 obtain ⟨a3,w3,⟨gc,bl,bf,rfl,hO,hL,hF,h1,h2,h3,hb3⟩,d5⟩:=zhu (Post:=fun a' w'=>∃ gc bl bf,a'=⟨#[.agg #[.int .i64 wd,.slice ga gl.length cap],u1,u2,.bool true,u4,u5,.agg #[.int .i64 wd,.slice (some ⟨gc,0,none⟩) gl.length gl.length],.int .i64 (M:Int),.slice (some ⟨bl,0,none⟩) M M,.slice (some ⟨bf,0,none⟩) M M,.int .i64 (0),u11,u12,u13,u14,u15,u16,u17,u18,u19,u20,u21],[]⟩/\Sp.Own w' w2.heap.size (.slice (some ⟨gc,0,none⟩) gl.length gl.length) gl/\w'.heap[bl]?=some (.cells (madeCells #[.int .i64 0] M) 3)/\w'.heap[bf]?=some (.cells (madeCells #[.slice none 0 0] M) 29)/\w2.heap.size<=gc/\gc < bl/\bl < bf/\Below w2.heap.size w2 w') t4 w2.tape w2.drawn (Sp.zpA wd ga cap gl w2 hC2 (by omega) hl M hM hM20 u1 u2 (.bool true) u4 u5 u6 u7 u8 u9 u10 u11 u12 u13 u14 u15 u16 u17 u18 u19 u20 u21 (fun gc bl bf w' q1 q2 q3 q4 q5 q6 q7=>⟨rfl,gc,bl,bf,rfl,q1,q2,q3,q4,q5,q6,q7⟩))
 have t5:=t4.desc d5
 have hz2:=hB2.size
 have hB3:=zpr hB2 hb3
 have d6:zcj SqP.prog ((base 16).at ⟨#[.agg #[.int .i64 wd,.slice ga gl.length cap],u1,u2,.bool true,u4,u5,.agg #[.int .i64 wd,.slice (some ⟨gc,0,none⟩) gl.length gl.length],.int .i64 (M:Int),.slice (some ⟨bl,0,none⟩) M M,.slice (some ⟨bf,0,none⟩) M M,.int .i64 (0),u11,u12,u13,u14,u15,u16,u17,u18,u19,u20,u21],[]⟩ [.code (.seq (.block 1 (.loop scL)) (.seq scZ .ret))]) (c :: cs) w3 ((base 16).at ⟨#[.agg #[.int .i64 wd,.slice ga gl.length cap],u1,u2,.bool true,u4,u5,.agg #[.int .i64 wd,.slice (some ⟨gc,0,none⟩) gl.length gl.length],.int .i64 (M:Int),.slice (some ⟨bl,0,none⟩) M M,.slice (some ⟨bf,0,none⟩) M M,.int .i64 (((0:Nat):Int)),u11,u12,u13,u14,u15,u16,u17,u18,u19,u20,u21],[]⟩ (.code scL :: .inLoop scL :: .inBlock 1 :: [.code (.seq scZ .ret)])) (c :: cs) w3 :=
  (zcj.ctl (fun _ _=>stepG_seq)).trans ((zcj.ctl (fun _ _=>stepG_block)).trans (zcj.ctl (fun _ _=>stepG_loop)))
 have t6:=t5.desc d6
 have hI:ScI wl w3 wd gl M gc bl bf 0 C (madeCells #[.int .i64 0] M) (madeCells #[.slice none 0 0] M) (fun _=>.slice none 0 0):=⟨⟨hB3.os,rfl,hB3.output,hB3.size,hB3.block⟩,hO.mono (by omega),hL,hF,by simp [madeCells],by simp [madeCells],fun j hj=>by omega,fun j hj=>by omega,⟨by omega,h2,h3⟩,fun j hj=>by omega,fun j hj=>by omega,fun j j' b hj=>by omega⟩
 obtain ⟨w4,aL,aF,xs,x1,x2,x3,x4,x5,x11,x12,x13,x14,x15,x16,x17,x18,x19,x20,x21,hI4,d7⟩:=zqc hCl hn hl hM20 hC M 0 (by omega) w3 _ _ _ _ _ _ _ _ _ _ _ _ _ _ _ _ _ _ _ hI t6
 have t7:=t6.desc d7
 obtain ⟨v,w5,⟨rfl,hb5⟩,d8⟩:=zo6 (Post:=fun v w'=>v=.tuple #[.agg #[.int .i64 wd,.slice (some ⟨gc,0,none⟩) gl.length gl.length,.slice (some ⟨bl,0,none⟩) M M,.slice (some ⟨bf,0,none⟩) M M],.bool true]/\Below w4.heap.size w4 w') t7 (Sp.zqZ wd ga cap gl w4 M gc bl bf x1 x2 x3 x4 x5 x11 x12 x13 x14 x15 x16 x17 x18 x19 x20 x21 (fun a' w' q1 q2 q3=>⟨rfl,_,⟨rfl,q2⟩,fun todo=>⟨rfl,q1,rfl,_,SqP.func16,q3⟩⟩))
 refine ⟨w5,gc,bl,bf,aL,aF,xs,?_,((((((d0.trans d1).trans d2).trans d3).trans d4).trans d5).trans d6).trans (d7.trans d8)⟩
 have hz5:=hb5.size
 have hkeep:∀ b o,w4.heap[b]?=some o->w5.heap[b]?=some o:=fun b o q=>(hb5.block b (gei q).1).trans q
 have hz4:wl.heap.size<=w4.heap.size:=hI4.below.size
 refine ⟨⟨hb5.os.trans hI4.below.os,rfl,hb5.output.trans hI4.below.output,Nat.le_trans hz4 hz5,fun b hb=>(hb5.block b (by omega)).trans (hI4.below.block b hb)⟩,hI4.grid.below hb5,hkeep _ _ hI4.lights,hkeep _ _ hI4.feet,hI4.sizeL,hI4.sizeF,hI4.atL,hI4.atF,hI4.lt,fun j hj=>(hI4.row j hj).keep (fun b hb=>?_),hI4.apart,hI4.once⟩
 rcases (hI4.row j hj).1 with ⟨q,_⟩ | ⟨g,cp,q,_,_,_,_,q6⟩
 ·rw [q] at hb; simp [Value.ownBlock] at hb
 ·rw [q] at hb
  simp [Value.ownBlock] at hb
  subst hb
  exact hb5.block g (gei q6).1
end
end
end Go.Proofs.YtfbbcooklhmeaaaGreat
