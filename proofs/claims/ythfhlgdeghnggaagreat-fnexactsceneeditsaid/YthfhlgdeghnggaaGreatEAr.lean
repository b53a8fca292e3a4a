/- Part. -/
import Derived.Maps.OwnRows
import Derived.Maps.Views
import Derived.WalkSpells
import Derived.Test.YthfhlgdeghnggaaGreatEAq
set_option maxHeartbeats 2000000
set_option maxRecDepth 100000
set_option linter.unusedVariables false
namespace Go.Proofs.YthfhlgdeghnggaaGreat
variable{arr va vo vr:Array Value}{F:Int->List Int}{fs:List (List Int)}{ls xs:List Int}{cs:Lp}{B N b base g n:Nat}{t:TypeId}{v:Value}{w w' w0:World}
open _root_.Go.Proofs.Tryz
namespace Sp
open Go.RowKit
attribute [local go_sem ↓] Go.wp_at_zero Go.wp_at_succ
theorem zhp(a:Od)(n cap:Nat)(left:Int)(w:World)(hm:n<=9223372036854775807)(hl:0<=left/\left<=1048576)(h:left - n<0) :
  Calls SqP.prog 26 #[.slice a n cap,J left] w fun e w'=>e=.returned (J (-1))/\w'=w:=by
 go_enter (zfx func26),ntmps26
 go_wp2
 go_ret
 exact⟨rfl,rfl⟩
theorem zhq(a:Od)(n cap:Nat)(left:Int)(w:World)(hm:n<=9223372036854775807)(hl:0<=left/\left<=1048576)(h:¬ left - n<0) :
  Calls SqP.prog 26 #[.slice a n cap,J left] w fun e w'=>e=.returned (J (left - n))/\w'=w:=by
 go_enter (zfx func26),ntmps26
 go_wp2
 go_ret
 exact⟨rfl,rfl⟩
theorem zk2(a:Od)(cap:Nat)(fs:List (List Int))(left:Int)(w:World)(h:zc7 w a fs)(hm:fs.length<=9223372036854775807)(hr:∀ k,k<fs.length->(fs.getD k []).length<=9223372036854775807)(hl:0<=left/\left<=1048576) :
  Calls SqP.prog 27 #[.slice a fs.length cap,J left] w fun e w'=>∃ r:Int,e=.returned (J r)/\(r<0\/(0<=r/\r<=left)/\fs.length<=1048576/\∀ k,k<fs.length->(fs.getD k []).length<=1048576)/\xE w w':=by
 obtain⟨N,hN⟩:∃ N,fs.length=N:=⟨_,rfl⟩
 by_cases hbig:left - fs.length<0
 ·rw[hN] at hbig hm ⊢
  clear h hr
  go_enter (zfx func27),ntmps27
  go_wp2_with fail
  go_ret
  exact⟨_,rfl,.inl qg,Below.refl _ _⟩
 ·rw[hN] at hbig hm hr ⊢
  have HN:Hid (fs.length=N):=hN
  have h3:N<=1048576:=qg
  clear hN
  go_enter (zfx func27),ntmps27
  go_wp2_with fail
  go_loopw [1,5] (fun v i wr=>∃ (k:Nat) (l:Int),k<=N/\i=J k/\v=J l/\(0<=l/\l<=left)/\(∀ j,j<k->(fs.getD j []).length<=1048576)/\xE w wr) (fun _ i _=>N - (intOf i).toNat)
  case atStart=>exact⟨0,_,Nat.zero_le _,rfl,rfl,qg,fun j hj=>qg,Below.refl _ _⟩
  case round =>
   rename World=>wo
   obtain⟨k,l,hk,rfl,rfl,h2,h0,hb⟩:=hrel
   by_cases hlt:k<N
   ·obtain⟨b,off,a',c',rfl,x0,_⟩:=(h.below hb).at (k:=k) qa
    have h1:=hr k hlt
    have HR:Hid (∀ j,j<k->(fs.getD j []).length<=1048576):=h0
    obtain⟨m,em⟩:∃ m,(fs.getD k []).length=m:=⟨_,rfl⟩
    have HM:Hid ((fs.getD k []).length=m):=em
    rw[em] at x0 h1
    clear h hr h0 em
    have h4:(k:Int)<(N:Int):=qg
    by_cases hneg:l - m<0
    ·go_wp2_with fail
     refine(zhp a' m c' l _ h1 qg qg).mono ?_
     rintro e w1 ⟨rfl,rfl⟩
     go_wp2_with fail
     go_ret
     exact⟨_,rfl,.inl qg,hb⟩
    ·go_wp2_with fail
     refine(zhq a' m c' l _ h1 qg qg).mono ?_
     rintro e w1 ⟨rfl,rfl⟩
     have h5:0<=l - (m:Int):=qg
     go_wp2_with fail
     go_roundw
     case rel =>
      refine⟨k+1,l - m,qg,by go_num,rfl,qg,fun j hj=>?_,hb⟩
      rcases Nat.lt_succ_iff_lt_or_eq.1 hj with q|rfl
      ·exact HR.o j q
      ·have:=HM.o;omega
     case measure=>exact qe
   ·have h6:¬ (k:Int)<(N:Int):=qg
    have HR:Hid (∀ j,j<k->(fs.getD j []).length<=1048576):=h0
    clear h0 h hr
    go_wp2_with fail
    go_ret
    refine⟨_,rfl,.inr ?_,hb⟩
    first|exact⟨h2,h3,fun j hj=>HR.o j qg⟩|exact⟨h2,fun j hj=>HR.o j qg⟩
theorem zog(a a2:Od)(c c2:Nat)(fs:List (List Int))(w:World)(h:zc7 w a fs)(h2:zc7 w a2 fs)(hm:fs.length<=1048576)(hx:∀ k,k<fs.length->(fs.getD k []).length<=1048576) :
  Calls SqP.prog 36 #[.slice a fs.length c,.slice a2 fs.length c2] w (xB w (.bool true)):=by
 have bl:((fs.length:Int) != (fs.length:Int))=false:=qm
 obtain⟨N,hN⟩:∃ N,fs.length=N:=⟨_,rfl⟩
 have HN:Hid (fs.length=N):=hN
 rw[hN] at bl hm ⊢
 clear hN
 go_enter (zfx func36),ntmps36
 go_wp2_with fail
 go_loopw [5] (fun ii wr=>∃ i:Nat,i<=N/\ii=J i/\xE w wr) (fun ii _=>N - (intOf ii).toNat)
 case atStart=>exact⟨0,Nat.zero_le _,rfl,Below.refl _ _⟩
 case round =>
  rename World=>wo
  obtain⟨i,hi,rfl,hb⟩:=hrel
  have h4:=hb.size
  by_cases hlt:i<N
  ·obtain⟨b,off,g,p,rfl,x0,r0⟩:=(h.below hb).at (k:=i) qa
   obtain⟨b2,off2,g2,p2,rfl,y0,r2⟩:=(h2.below hb).at (k:=i) qa
   have h0:=hx i qa
   have h5:(i:Int)<(N:Int):=qg
   have wk:IntKind.i64.wrap ((i:Int)+1)=(i:Int)+1:=IntWalk.i64_in _ qg
   obtain⟨xs,ex⟩:∃ xs,fs.getD i []=xs:=⟨_,rfl⟩
   rw[ex] at x0 y0 r0 r2 h0
   have hC:=fun w hb=>ziR g g2 p p2 xs w (r0.below hb) (r2.below hb) h0
   obtain⟨m,em⟩:∃ m,xs.length=m:=⟨_,rfl⟩
   rw[em] at x0 y0 hC
   clear h h2 hx ex em r0 r2 h0
   go_wp2
   go_region_held3 (fun w'=>w'.cell? (O b (off+i))=some (.slice g m p)/\w'.cell? (O b2 (off2+i))=some (.slice g2 m p2))
    (first
     | exact⟨zaa h1 x0,zaa h1 y0⟩
     | exact⟨x0,y0⟩
     | go_keep)
    (first
     | (go_at_call 10;refine(hC _ (by first|exact Below.refl _ _|exact(Below.refl _ _).drew)).mono ?_;rintro e w7 ⟨rfl,hb7'⟩;have h1:xE wo w7:=(by first|exact hb7'|exact zcq hb7'))
     | fail)
   all_goals
    have h3:=zae hb h4 h1
    go_wp2_with fail
    go_roundw
    case rel=>exact⟨i+1,qg,by go_num,by first|exact h3|exact h3.drew⟩
    case measure=>exact qe
  ·have h6:¬ (i:Int)<(N:Int):=qg
   go_wp2_with fail
   go_ret
   exact⟨rfl,hb⟩
def ztw:Value->Od
 | .slice a _ _=>a
 | _=>none
theorem zjv(h:zaL w B (.slice (xA g) n n) xs):zcA w (xA g) xs:=by
 obtain⟨a,c,e,q⟩:=zpj h
 cases e
 exact q
theorem zoI:(SqP.prog.info? 25).map (fun i=>(i.zero,i.size,i.bytes))=some (some (.slice none 0 0),1,24):=qh
theorem zkz(n:Nat)(hn:n<=1048576)(w:World):(Instr.makeSlice 26 (J (n:Int)) (J (n:Int))).run SqP.prog w=.ok (.slice (xA w.heap.size) n n) (w.alloc (.cells (madeCells #[.slice none 0 0] n) 25)):=by
 obtain⟨i0,hi,iz0,iz1,iz2⟩:=info_parts zoI
 have:=run_make (P:=SqP.prog) w 26 25 i0 (.slice none 0 0) SqP.underlying26 hi iz0 .i64 .i64 (n:Int) (n:Int) qg qg (by rw[iz2];omega) qg
 rw[iz1] at this
 simpa [Value.cells] using this
structure Cp2(w0 w:World)(B N k:Nat)(fs:List (List Int))(arr:Array Value):Prop where
 below:xE w0 w
 top:w.heap[B]?=some (.cells arr 25)
 size:arr.size=N
 at':∀ j,j<k->∃ g,arr[j]?=some (.slice (xA g) (fs.getD j []).length (fs.getD j []).length)/\B<g/\zaL w (B+1) (.slice (xA g) (fs.getD j []).length (fs.getD j []).length) (fs.getD j [])
 inj:∀ j j' g n n',j<k->j'<k->arr[j]?=some (.slice (xA g) n n)->arr[j']?=some (.slice (xA g) n' n')->j=j'
theorem zb7(h:zaL w B (.slice (xA g) n n) xs)(hk:w'.heap[g]?=w.heap[g]?):zaL w' B (.slice (xA g) n n) xs:=by
 obtain⟨h1,h2⟩:=h
 refine⟨h1,?_⟩
 rcases h2 with h2|⟨g',cap,cur,q1,q2,q3,q4⟩
 ·exact .inl h2
 ·have e:g=g':=by simp only[Value.slice.injEq,Option.some.injEq,Addr.mk.injEq] at q1;exact q1.1.1
  subst e
  exact .inr ⟨g,cap,cur,q1,q2,hk.trans q3,q4⟩
theorem zjr{B':Nat}(h:zaL w B v xs)(hb:B'<=B):zaL w B' v xs:=by
 obtain⟨h1,h2⟩:=h
 refine⟨h1,?_⟩
 rcases h2 with h2|⟨g',cap,cur,q1,q2,q3⟩
 ·exact .inl h2
 ·exact .inr ⟨g',cap,cur,q1,Nat.le_trans hb q2,q3⟩
theorem Cp2.next{k:Nat}(h:Cp2 w0 w B N k fs arr)(hB:w0.heap.size<=B)(h0:k<N)(hn:(fs.getD k []).length=n)(hb:xE w w')(hO:zaL w' w.heap.size (.slice (xA g) n n) (fs.getD k [])) :
  Cp2 w0 (w'.setCell (O B k) (.slice (xA g) n n)) B N (k+1) fs (arr.setIfInBounds k (.slice (xA g) n n)):=by
 subst hn
 have h1:=(gei h.top).1
 have hg:w.heap.size<=g:=(World.ownsRow.lt hO g rfl).1
 have ht:w'.heap[B]?=some (.cells arr 25):=(hb.block B h1).trans h.top
 refine⟨(zae h.below h.below.size hb).setCell (p:=(O B k)) hB _,heap_setCell_same w' B k _ _ _ ht,by simpa using h.size,fun j hj=>?_,fun j j' g' n n' hj hj' e e'=>?_⟩
 rcases Nat.lt_succ_iff_lt_or_eq.1 hj with q|rfl
 ·obtain⟨g',e1,e2,e3⟩:=h.at' j q
  have hl:=(World.ownsRow.lt e3 g' rfl).2
  refine⟨g',by rw[Array.getElem?_setIfInBounds_ne qg];exact e1,e2,zb7 e3 ?_⟩
  exact(Below.heap_setCell _ _ _ _ (by show g'≠B;omega)).trans (hb.block g' hl)
 ·refine⟨g,by rw[Array.getElem?_setIfInBounds_self_of_lt (by rw[h.size];exact h0)],qg,?_⟩
  have hO':=zb7 (w':=w'.setCell (O B j) (.slice (xA g) (fs.getD j []).length (fs.getD j []).length)) hO (Below.heap_setCell _ _ _ _ (by show g≠B;omega))
  exact zjr hO' qg
 ·have old:∀ j g n,j<k->arr[j]?=some (.slice (xA g) n n)->g<w.heap.size:=fun j g n hj e=>by
   obtain⟨g1,e1,_,e3⟩:=h.at' j hj
   have hl:=(World.ownsRow.lt e3 g1 rfl).2
   rw[e] at e1
   cases e1
   exact hl
  have low:∀ j,j<k->(arr.setIfInBounds k (.slice (xA g) (fs.getD k []).length (fs.getD k []).length))[j]?=arr[j]?:=fun j hj=>Array.getElem?_setIfInBounds_ne qg
  have top:(arr.setIfInBounds k (.slice (xA g) (fs.getD k []).length (fs.getD k []).length))[k]?=some (.slice (xA g) (fs.getD k []).length (fs.getD k []).length):=Array.getElem?_setIfInBounds_self_of_lt (by rw[h.size];exact h0)
  rcases Nat.lt_succ_iff_lt_or_eq.1 hj with q|q
  ·rw[low j q] at e
   rcases Nat.lt_succ_iff_lt_or_eq.1 hj' with q'|q'
   ·rw[low j' q'] at e'
    exact h.inj j j' g' n n' q q' e e'
   ·subst q'
    rw[top] at e'
    cases e'
    have:=old j g _ q e
    omega
  ·subst q
   rw[top] at e
   cases e
   rcases Nat.lt_succ_iff_lt_or_eq.1 hj' with q'|q'
   ·rw[low j' q'] at e'
    have:=old j' g _ q' e'
    omega
   ·exact q'.symm
theorem Cp2.rows(h:Cp2 w0 w B N N fs arr)(hN:fs.length=N)(hs:w.heap.size<=w'.heap.size)(hk:∀ b,B<=b->b<w.heap.size->w'.heap[b]?=w.heap[b]?):∃ ad,zbk w' B w'.heap.size (xA B) fs.length ad (fun k=>(fs.getD k []).length) (fun k=>(fs.getD k []).length) (fun k j=>(fs.getD k []).getD j 0)/\∀ k x,k<fs.length->ad k=some x->B<x.block/\x.block<w.heap.size:=by
 have hB:=(gei h.top).1
 have key:∀ k,k<fs.length->∃ g,arr[k]?=some (.slice (xA g) (fs.getD k []).length (fs.getD k []).length)/\(B<g/\g<w.heap.size)/\RI w' (xA g) ((fs.getD k []).length * 1) (fun j=>(fs.getD k []).getD j 0):=fun k hkk=>by
  obtain⟨g,e1,e2,e3⟩:=h.at' k qg
  have hl:=(World.ownsRow.lt e3 g rfl).2
  obtain⟨a,c,q1,q2,_⟩:=zcH (zb7 e3 (hk g qg hl))
  cases q1
  exact⟨g,e1,⟨e2,hl⟩,q2⟩
 refine⟨fun k=>(ztw (arr.getD k .nilIface)),.inr ⟨B,rfl,⟨Nat.le_refl _,qg⟩,fun k hkk=>?_,fun k hkk=>?_,fun k x hkk q=>?_,fun k k' x x' hkk hkk' q q' e=>?_,Nat.le_refl _⟩,fun k x hkk q=>?_⟩
 ·obtain⟨g,e1,_,_⟩:=key k hkk
  have e2:arr.getD k .nilIface=.slice (xA g) (fs.getD k []).length (fs.getD k []).length:=by rw[Array.getD_eq_getD_getElem?,e1];rfl
  rw[cell_of_row _ _ k _ _ _ ((hk B (Nat.le_refl _) hB).trans h.top),e1,e2]
  rfl
 ·obtain⟨g,e1,_,e3⟩:=key k hkk
  have e2:arr.getD k .nilIface=.slice (xA g) (fs.getD k []).length (fs.getD k []).length:=by rw[Array.getD_eq_getD_getElem?,e1];rfl
  rw[e2]
  exact e3
 ·obtain⟨g,e1,hg,_⟩:=key k hkk
  have e2:arr.getD k .nilIface=.slice (xA g) (fs.getD k []).length (fs.getD k []).length:=by rw[Array.getD_eq_getD_getElem?,e1];rfl
  rw[e2] at q
  cases q
  exact⟨⟨by show B<=g;omega,by show g<w'.heap.size;omega⟩,by show ¬ g=B;omega⟩
 ·obtain⟨g,e1,hg,_⟩:=key k hkk
  obtain⟨g',e1',hg',_⟩:=key k' hkk'
  have e2:arr.getD k .nilIface=.slice (xA g) (fs.getD k []).length (fs.getD k []).length:=by rw[Array.getD_eq_getD_getElem?,e1];rfl
  have e2':arr.getD k' .nilIface=.slice (xA g') (fs.getD k' []).length (fs.getD k' []).length:=by rw[Array.getD_eq_getD_getElem?,e1'];rfl
  rw[e2] at q
  rw[e2'] at q'
  cases q
  cases q'
  replace e:g=g':=e
  subst e
  exact h.inj k k' g _ _ qg qg e1 e1'
 ·obtain⟨g,e1,hg,_⟩:=key k hkk
  have e2:arr.getD k .nilIface=.slice (xA g) (fs.getD k []).length (fs.getD k []).length:=by rw[Array.getD_eq_getD_getElem?,e1];rfl
  replace q:ztw (arr.getD k .nilIface)=some x:=q
  rw[e2] at q
  cases q
  exact hg
theorem Cp2.r2(h:Cp2 w0 w B N N fs arr)(hN:fs.length=N)(hs:w.heap.size<=w'.heap.size)(hk:∀ b,B<=b->b<w.heap.size->w'.heap[b]?=w.heap[b]?):zc7 w' (xA B) fs:=by
 have hB:=(gei h.top).1
 refine .inr ⟨B,0,rfl,qg,fun k h0=>?_⟩
 obtain⟨g,e1,e2,e3⟩:=h.at' k qg
 refine⟨some (O g 0),(fs.getD k []).length,?_,zjv (zb7 e3 (hk g qg (World.ownsRow.lt e3 g rfl).2))⟩
 rw[Nat.zero_add,cell_of_row _ _ _ _ _ _ ((hk B (Nat.le_refl _) hB).trans h.top),e1]
theorem zk8(a:Od)(cap:Nat)(fs:List (List Int))(w:World)(h:zc7 w a fs)(hm:fs.length<=1048576)(hx:∀ k,k<fs.length->(fs.getD k []).length<=1048576) :
  Calls SqP.prog 32 #[.slice a fs.length cap] w fun e w'=>∃ arr,e=.returned (.slice (xA w.heap.size) fs.length fs.length)/\Cp2 w w' w.heap.size fs.length fs.length fs arr:=by
 obtain⟨N,hN⟩:∃ N,fs.length=N:=⟨_,rfl⟩
 have HN:Hid (fs.length=N):=hN
 rw[hN] at hm ⊢
 clear hN
 have h4:=zkz N hm w
 have H0:Cp2 w (w.alloc (.cells (madeCells #[.slice none 0 0] N) 25)) w.heap.size N 0 fs (madeCells #[.slice none 0 0] N):=⟨bel,by show (w.heap.push _)[w.heap.size]?=_;simp,by simp[madeCells],fun j hj=>qg,fun j _ _ _ _ hj=>qg⟩
 go_enter (zfx func32),ntmps32
 go_wp2_with fail
 obtain⟨wz,h2⟩:∃ wz,wz=w.alloc (.cells (madeCells #[.slice none 0 0] N) 25):=⟨_,rfl⟩
 rw[<- h2] at H0 ⊢
 clear h4 h2
 go_loopw [4] (fun i wr=>∃ (k:Nat) (arr:Array Value),k<=N/\i=J k/\Cp2 w wr w.heap.size N k fs arr) (fun i _=>N - (intOf i).toNat)
 case atStart=>exact⟨0,_,Nat.zero_le _,rfl,H0⟩
 case round =>
  rename World=>wo
  obtain⟨k,arr,hk,rfl,hI⟩:=hrel
  have hb:=hI.below
  have h7:=hb.size
  by_cases hlt:k<N
  ·obtain⟨b,off,a',c',rfl,x0,hR⟩:=(h.below hb).at (k:=k) qa
   have h3:=hx k qa
   have h6:(k:Int)<(N:Int):=qg
   have HI:Hid (Cp2 w wo w.heap.size N k fs arr):=hI
   have hC:=zht a' c' (fs.getD k []) wo hR h3
   obtain⟨xs,ex⟩:∃ xs,fs.getD k []=xs:=⟨_,rfl⟩
   have HE:Hid (fs.getD k []=xs):=ex
   rw[ex] at x0 hC
   obtain⟨m,em⟩:∃ m,xs.length=m:=⟨_,rfl⟩
   have HM:Hid (xs.length=m):=em
   rw[em] at x0 hC
   clear h hx ex em hR h3 hI
   go_wp2_with fail
   refine hC.mono ?_
   rintro e w1 ⟨g,rfl,hO,h1⟩
   have h5:=HI.o.next (g:=g) (n:=m) (Nat.le_refl _) hlt (by rw[HE.o];exact HM.o) h1 (by rw[HE.o];exact hO)
   have h0:w1.heap[w.heap.size]?=some (.cells arr 25):=(h1.block _ (gei HI.o.top).1).trans HI.o.top
   have cl:w1.cell? (xC w k)=some (arr.getD k .nilFunc):=by rw[cell_of_row _ _ _ _ _ _ h0];simp[show k<arr.size by rw[HI.o.size];exact hlt]
   have fl:w1.frozen? (xC w k)=false:=frozen_of_row _ _ _ _ _ h0
   clear h0 hO h1
   go_wp2_with fail
   go_roundw
   case rel=>exact⟨k+1,_,qg,by go_num,h5⟩
   case measure=>exact qe
  ·have h8:¬ (k:Int)<(N:Int):=qg
   have HI:Hid (Cp2 w wo w.heap.size N k fs arr):=hI
   clear hI h hx
   go_wp2_with fail
   go_ret
   obtain rfl:k=N:=qg
   exact⟨rfl,_,HI.o⟩
theorem zf8{xs:Lp}(h:Own w B (.slice (xA g) n n) xs)(hk:w'.heap[g]?=w.heap[g]?):Own w' B (.slice (xA g) n n) xs:=by
 obtain⟨h1,h2⟩:=h
 refine⟨h1,?_⟩
 rcases h2 with h2|⟨g',cap,cur,q1,q2,q3,q4⟩
 ·exact .inl h2
 ·have e:g=g':=by simp only[Value.slice.injEq,Option.some.injEq,Addr.mk.injEq] at q1;exact q1.1.1
  subst e
  exact .inr ⟨g,cap,cur,q1,q2,hk.trans q3,q4⟩
def ScM(w:World)(g l f:Od)(cs:Lp)(ls:List Int)(fs:List (List Int)):Prop:=zaf w g cs/\zcA w l ls/\zc7 w f fs
theorem ScM.below{g l f:Od}(h:ScM w g l f cs ls fs)(hb:xE w w'):ScM w' g l f cs ls fs:=⟨h.1.below hb,h.2.1.below hb,h.2.2.below hb⟩
def Mk(w:World)(lo hi g1 g2 g3:Nat)(cs:Lp)(ls:List Int)(fs:List (List Int)):Prop :=
 Own w lo (.slice (xA g1) cs.length cs.length) cs/\zaL w lo (.slice (xA g2) ls.length ls.length) ls/\(lo<=g1/\g1<g2/\g2<g3/\g3<hi/\hi<=w.heap.size)/\∃ ad,zbk w g3 w.heap.size (xA g3) fs.length ad (fun k=>(fs.getD k []).length) (fun k=>(fs.getD k []).length) (fun k j=>(fs.getD k []).getD j 0)/\∀ k x,k<fs.length->ad k=some x->g3<x.block/\x.block<hi
def ScN(w:World)(lo g1 g2 g3:Nat)(cs:Lp)(ls:List Int)(fs:List (List Int)):Prop:=∀ w':World,w.heap.size<=w'.heap.size->(∀ b,lo<=b->b<w.heap.size->w'.heap[b]?=w.heap[b]?)->ScM w' (xA g1) (xA g2) (xA g3) cs ls fs/\Mk w' lo w.heap.size g1 g2 g3 cs ls fs
theorem Mk.hi{w:World}{lo hi hi' g1 g2 g3:Nat}{cs:Lp}{ls:List Int}{fs:List (List Int)}(h:Mk w lo hi g1 g2 g3 cs ls fs)(h1:hi<=hi')(h2:hi'<=w.heap.size):Mk w lo hi' g1 g2 g3 cs ls fs:=by
 obtain⟨q1,q2,q3,ad,q4,q5⟩:=h
 exact⟨q1,q2,qg,ad,q4,fun k x hk e=>⟨(q5 k x hk e).1,nll (q5 k x hk e).2 h1⟩⟩
theorem ScN.m{lo g1 g2 g3:Nat}(h:ScN w lo g1 g2 g3 cs ls fs):ScM w (xA g1) (xA g2) (xA g3) cs ls fs:=(h w (Nat.le_refl _) fun _ _ _=>rfl).1
theorem ScN.move{lo g1 g2 g3:Nat}(h:ScN w lo g1 g2 g3 cs ls fs)(hs:w.heap.size<=w'.heap.size)(hk:∀ b,lo<=b->b<w.heap.size->w'.heap[b]?=w.heap[b]?):ScN w' lo g1 g2 g3 cs ls fs :=
 fun w2 h1 h2=>have q:=h w2 (Nat.le_trans hs h1) fun b q1 q2=>(h2 b q1 (nll q2 hs)).trans (hk b q1 q2);⟨q.1,q.2.hi hs h1⟩
theorem zav{v0 v1 v2 v3:Value}(h:w.heap[b]?=some (.cells #[v0,v1,v2,v3] t)):w.cell? (O b 0)=some v0/\w.cell? (O b 1)=some v1/\w.cell? (O b 2)=some v2/\w.cell? (O b 3)=some v3 :=
 ⟨(cell_of_row _ _ 0 _ _ _ h).trans rfl,(cell_of_row _ _ 1 _ _ _ h).trans rfl,(cell_of_row _ _ 2 _ _ _ h).trans rfl,(cell_of_row _ _ 3 _ _ _ h).trans rfl⟩
theorem thaw{xs:Array Value}(h:w.heap[b]?=some (.cells xs t))(i:Nat):w.frozen? (O b i)=false:=frozen_of_row _ _ _ _ _ h
def zc8(cs:Lp)(ls:List Int)(fs:List (List Int)):Prop:=cs.length<=1048576/\ls.length<=1048576/\fs.length<=1048576/\∀ k,k<fs.length->(fs.getD k []).length<=1048576
def Fits(cs:Lp)(ls:List Int)(fs:List (List Int)):Prop:=cs.length<=9223372036854775807/\ls.length<=9223372036854775807/\fs.length<=9223372036854775807/\∀ k,k<fs.length->(fs.getD k []).length<=9223372036854775807
theorem zk3(wd:Int)(g l f:Od)(gc lc fc:Nat)(cs:Lp)(ls:List Int)(fs:List (List Int))(left:Int)(w:World)(h:zc7 w f fs)(hS:Fits cs ls fs)(hl:0<=left/\left<=1048576) :
  Calls SqP.prog 6 #[.agg (xH wd g cs.length gc l ls.length lc f fs.length fc),J left] w fun e w'=>∃ r:Int,e=.returned (J r)/\(r<0\/(0<=r/\r<=left)/\zc8 cs ls fs)/\xE w w':=by
 obtain⟨s1,s2,s3,s4⟩:=hS
 by_cases n1:left - cs.length<0
 ·clear h
  go_enter (zfx func6),ntmps6
  go_wp2_with fail
  refine(zeX _ _ _ _ _ _ s1 hl).mono ?_
  rintro e w1 ⟨rfl,h0⟩
  rw[if_pos qg]
  go_wp2_with fail
  go_ret
  exact⟨_,rfl,.inl qg,zae bel qm h0⟩
 have hf:∀(w1:World) (l2:Int),xE w w1->0<=l2/\l2<=1048576->Calls SqP.prog 27 #[.slice f fs.length fc,J l2] w1 fun e w'=>∃ r:Int,e=.returned (J r)/\(r<0\/(0<=r/\r<=l2)/\fs.length<=1048576/\∀ k,k<fs.length->(fs.getD k []).length<=1048576)/\xE w1 w':=fun w1 l2 hb h2=>zk2 f fc fs l2 w1 (h.below hb) s3 s4 h2
 have HF:Hid (∀(w1:World) (l2:Int),xE w w1->0<=l2/\l2<=1048576->Calls SqP.prog 27 #[.slice f fs.length fc,J l2] w1 fun e w'=>∃ r:Int,e=.returned (J r)/\(r<0\/(0<=r/\r<=l2)/\fs.length<=1048576/\∀ k,k<fs.length->(fs.getD k []).length<=1048576)/\xE w1 w'):=hf
 clear hf h s4
 obtain⟨a,ea⟩:∃ a:Int,left - cs.length=a:=⟨_,rfl⟩
 have N1:Hid (¬ left - cs.length<0/\left - cs.length=a):=⟨n1,ea⟩
 have ha:0<=a/\a<=1048576/\(cs.length:Int)<=1048576:=qg
 clear n1 ea
 by_cases n2:a - ls.length<0
 ·clear HF
  go_enter (zfx func6),ntmps6
  go_wp2_with fail
  refine(zeX _ _ _ _ _ _ s1 hl).mono ?_
  rintro e w1 ⟨rfl,h0⟩
  rw[if_neg (by have:=N1.o;omega),N1.o.2]
  have na:¬ a<0:=qg
  have p2:w1.cell? (xC w 2)=some (.slice l ls.length lc):=zaa h0 ql
  have hB:xE w w1:=zae bel qm h0
  clear h0
  go_wp2_with fail
  refine(zhp _ _ _ _ _ s2 qg qg).mono ?_
  rintro e w2 ⟨rfl,rfl⟩
  go_wp2_with fail
  go_ret
  exact⟨_,rfl,.inl qg,hB⟩
 have h1:0<=a - ls.length/\a - ls.length<=1048576:=qg
 have hs:cs.length<=1048576/\ls.length<=1048576:=qg
 go_enter (zfx func6),ntmps6
 go_wp2_with fail
 refine(zeX _ _ _ _ _ _ s1 hl).mono ?_
 rintro e w1 ⟨rfl,h0⟩
 rw[if_neg (by have:=N1.o;omega),N1.o.2]
 have na:¬ a<0:=qg
 have p2:w1.cell? (xC w 2)=some (.slice l ls.length lc):=zaa h0 ql
 have p3:w1.cell? (xC w 3)=some (.slice f fs.length fc):=zaa h0 ql
 have hB:xE w w1:=zae bel qm h0
 clear h0
 go_wp2_with fail
 refine(zhq _ _ _ _ _ s2 qg qg).mono ?_
 rintro e w2 ⟨rfl,rfl⟩
 obtain⟨b,eb⟩:∃ b:Int,a - ls.length=b:=⟨_,rfl⟩
 rw[eb] at h1 ⊢
 have nb:¬ b<0:=qg
 clear n2
 go_wp2_with fail
 refine(HF.o _ b hB h1).mono ?_
 rintro e w3 ⟨r,rfl,hr,h4⟩
 have h3:=zae hB hB.size h4
 rcases hr with hr|⟨hr,hr2⟩
 ·go_wp2_with fail
  go_ret
  exact⟨_,rfl,.inl qg,h3⟩
 ·have hn:¬ r<0:=qg
  go_wp2_with fail
  go_ret
  exact⟨_,rfl,.inr ⟨by have:=N1.o;omega,hs.1,hs.2,hr2⟩,h3⟩
theorem zcn(o1 o2 o3:Obj)(w:World):(((w.alloc o1).alloc o2).alloc o3).heap[w.heap.size]?=some o1/\(((w.alloc o1).alloc o2).alloc o3).heap[w.heap.size+1]?=some o2/\(((w.alloc o1).alloc o2).alloc o3).heap[w.heap.size+2]?=some o3/\(((w.alloc o1).alloc o2).alloc o3).heap.size=w.heap.size+3/\xE w (((w.alloc o1).alloc o2).alloc o3):=by
 refine⟨?_,?_,?_,?_,bel⟩
 ·show (((w.heap.push o1).push o2).push o3)[w.heap.size]?=some o1
  rw[Array.getElem?_push,if_neg qn,Array.getElem?_push,if_neg qm,Array.getElem?_push,if_pos rfl]
 ·show (((w.heap.push o1).push o2).push o3)[w.heap.size+1]?=some o2
  rw[Array.getElem?_push,if_neg qm,Array.getElem?_push,if_pos qm]
 ·show (((w.heap.push o1).push o2).push o3)[w.heap.size+2]?=some o3
  rw[Array.getElem?_push,if_pos qm]
 ·show (((w.heap.push o1).push o2).push o3).size=_
  simp
structure Cp3(w:World)(B:Nat)(va vr vo:Array Value):Prop where
 a:w.heap[B]?=some (.cells va 28)
 r:w.heap[B+1]?=some (.cells vr 35)
 o:w.heap[B+2]?=some (.cells vo 35)
theorem Cp3.on(h:Cp3 w B va vr vo)(hb:xE w w'):Cp3 w' B va vr vo :=
 ⟨(hb.block _ (gei h.a).1).trans h.a,(hb.block _ (gei h.r).1).trans h.r,(hb.block _ (gei h.o).1).trans h.o⟩
theorem Cp3.put(h:Cp3 w B va vr vo)(i:Nat)(v:Value):Cp3 (w.setCell (O (B+2) i) v) B va vr (vo.setIfInBounds i v) :=
 ⟨(Below.heap_setCell _ _ _ _ (by show B≠B+2;omega)).trans h.a,(Below.heap_setCell _ _ _ _ (by show B+1≠B+2;omega)).trans h.r,heap_setCell_same _ _ _ _ _ _ h.o⟩
theorem zgC(wd:Int)(g l f:Od)(gc lc fc:Nat)(cs:Lp)(ls:List Int)(fs:List (List Int))(w:World)(hM:ScM w g l f cs ls fs)(hS:zc8 cs ls fs) :
  Calls SqP.prog 8 #[.agg (xH wd g cs.length gc l ls.length lc f fs.length fc)] w fun e w'=>∃ g1 g2 g3,e=.returned (.agg (xH wd (xA g1) cs.length cs.length (xA g2) ls.length ls.length (xA g3) fs.length fs.length))/\ScN w' w.heap.size g1 g2 g3 cs ls fs/\xE w w':=by
 obtain⟨hg,hl,hf⟩:=hM
 obtain⟨w2,h2⟩:∃ w2,w2=((w.alloc (.cells (xH wd g cs.length gc l ls.length lc f fs.length fc) 28)).alloc (.cells xF 35)).alloc (.cells xF 35):=⟨_,rfl⟩
 obtain⟨x1,x2,x3,hq,h3⟩:=zcn (.cells (xH wd g cs.length gc l ls.length lc f fs.length fc) 28) (.cells xF 35) (.cells xF 35) w
 rw[<- h2] at x1 x2 x3 hq h3
 have K2:Hid (Cp3 w2 w.heap.size (xH wd g cs.length gc l ls.length lc f fs.length fc) xF xF):=⟨x1,x2,x3⟩
 have B2:Hid (xE w w2):=h3
 have HI:Hid ((zaf w g cs/\zcA w l ls/\zc7 w f fs)/\zc8 cs ls fs):=⟨⟨hg,hl,hf⟩,hS⟩
 have hG:=(znA (aLt:=Sq.altP)) wd g gc cs w2 (hg.below h3) hS.1
 clear x1 x2 x3 h3 hg hl hf hS
 obtain⟨N,hN⟩:∃ N,cs.length=N:=⟨_,rfl⟩
 obtain⟨P,hP⟩:∃ P,ls.length=P:=⟨_,rfl⟩
 obtain⟨R,hR⟩:∃ R,fs.length=R:=⟨_,rfl⟩
 have HN:Hid (cs.length=N/\ls.length=P/\fs.length=R):=⟨hN,hP,hR⟩
 have h7:=fun (w:World) (h:zcA w l ls)=>zht l lc ls w h HI.o.2.2.1
 have h6:=fun (w:World) (h:zc7 w f fs)=>zk8 f fc fs w h HI.o.2.2.2.1 HI.o.2.2.2.2
 have HIS:Hid (∀ w:World,zcA w l ls->Calls SqP.prog 31 #[.slice l P lc] w fun e w'=>∃ g,e=.returned (.slice (xA g) P P)/\zaL w' w.heap.size (.slice (xA g) P P) ls/\xE w w'):=by rw[<- hP];exact h7
 have HISS:Hid (∀ w:World,zc7 w f fs->Calls SqP.prog 32 #[.slice f R fc] w fun e w'=>∃ arr,e=.returned (.slice (xA w.heap.size) R R)/\Cp2 w w' w.heap.size R R fs arr):=by rw[<- hR];exact h6
 rw[hN] at hG
 rw[hN,hP,hR] at K2 h2 ⊢
 clear hN hP hR h7 h6
 go_enter (zfx func8),ntmps8
 go_upto_region 2 with fail
 rw[<- h2]
 clear h2
 obtain⟨c0,c1,c2,c3⟩:=zav K2.o.a
 go_wp2_with fail
 refine hG.mono ?_
 rintro e w3 ⟨g1,rfl,hO,h4⟩
 have hw:=h4.size
 have K3:=K2.o.on h4
 have B3:Hid (xE w w3):=zae B2.o B2.o.size h4
 obtain⟨o0,o1,o2,o3⟩:=zav K3.o
 have t0:=thaw K3.o 0
 have t1:=thaw K3.o 1
 have h8:=hO.lt
 have HC3:Hid (Own w3 w.heap.size (.slice (xA g1) N N) cs/\(w.heap.size+3<=g1/\g1<w3.heap.size)):=⟨hO.mono qg,qg,h8.2⟩
 clear c0 c1 c2 c3 hO h4 K2 hG h8
 have K4:Hid (Cp3 ((w3.setCell (xD w 2 0) (J wd)).setCell (xD w 2 1) (.slice (xA g1) N N)) w.heap.size (xH wd g N gc l P lc f R fc) xF (xH wd (xA g1) N N none 0 0 none 0 0)):=(K3.put 0 _).put 1 _
 have B4:Hid (xE w ((w3.setCell (xD w 2 0) (J wd)).setCell (xD w 2 1) (.slice (xA g1) N N))):=(B3.o.setCell (p:=(xD w 2 0)) (by show w.heap.size<=w.heap.size+2;omega) _).setCell (p:=(xD w 2 1)) (by show w.heap.size<=w.heap.size+2;omega) _
 have C4:Hid (Own ((w3.setCell (xD w 2 0) (J wd)).setCell (xD w 2 1) (.slice (xA g1) N N)) w.heap.size (.slice (xA g1) N N) cs/\g1<((w3.setCell (xD w 2 0) (J wd)).setCell (xD w 2 1) (.slice (xA g1) N N)).heap.size):=⟨zf8 HC3.o.1 ((Below.heap_setCell _ _ _ _ (by show g1≠w.heap.size+2;have:=HC3.o.2;omega)).trans (Below.heap_setCell _ _ _ _ (by show g1≠w.heap.size+2;have:=HC3.o.2;omega))),by have:=HC3.o.2.2;simpa using this⟩
 have z4:w3.heap.size<=((w3.setCell (xD w 2 0) (J wd)).setCell (xD w 2 1) (.slice (xA g1) N N)).heap.size:=qm
 clear K3
 go_upto_region 3 with fail
 obtain⟨w4,h9⟩:∃ w4,w4=(w3.setCell (xD w 2 0) (J wd)).setCell (xD w 2 1) (.slice (xA g1) N N):=⟨_,rfl⟩
 rw[<- h9] at K4 B4 C4 z4 ⊢
 clear h9 o0 o1 o2 o3 t0 t1 B3
 obtain⟨c0,c1,c2,c3⟩:=zav K4.o.a
 go_wp2_with fail
 refine(HIS.o w4 (HI.o.1.2.1.below B4.o)).mono ?_
 rintro e w5 ⟨g2,rfl,hO,h1⟩
 have hy:=h1.size
 have K5:=K4.o.on h1
 have B5:Hid (xE w w5):=zae B4.o B4.o.size h1
 have o2:=(zav K5.o).2.2.1
 have t2:=thaw K5.o 2
 have he:=World.ownsRow.lt hO g2 rfl
 have HC5:Hid ((Own w5 w.heap.size (.slice (xA g1) N N) cs/\zaL w5 w.heap.size (.slice (xA g2) P P) ls)/\(g1<w5.heap.size/\g1<g2)/\w.heap.size+3<=g2/\g2<w5.heap.size):=⟨⟨C4.o.1.below h1,zjr hO qg⟩,by have:=C4.o.2;omega,qg,he.2⟩
 clear c0 c1 c2 c3 hO h1 K4 he C4 B4
 have K6:Hid (Cp3 (w5.setCell (xD w 2 2) (.slice (xA g2) P P)) w.heap.size (xH wd g N gc l P lc f R fc) xF (xH wd (xA g1) N N (xA g2) P P none 0 0)):=K5.put 2 _
 have B6:Hid (xE w (w5.setCell (xD w 2 2) (.slice (xA g2) P P))):=B5.o.setCell (p:=(xD w 2 2)) (by show w.heap.size<=w.heap.size+2;omega) _
 have C6:Hid ((Own (w5.setCell (xD w 2 2) (.slice (xA g2) P P)) w.heap.size (.slice (xA g1) N N) cs/\zaL (w5.setCell (xD w 2 2) (.slice (xA g2) P P)) w.heap.size (.slice (xA g2) P P) ls)/\g1<(w5.setCell (xD w 2 2) (.slice (xA g2) P P)).heap.size/\g2<(w5.setCell (xD w 2 2) (.slice (xA g2) P P)).heap.size):=⟨⟨zf8 HC5.o.1.1 (Below.heap_setCell _ _ _ _ (by show g1≠w.heap.size+2;have:=HC3.o.2;omega)),zb7 HC5.o.1.2 (Below.heap_setCell _ _ _ _ (by show g2≠w.heap.size+2;have:=HC5.o.2;omega))⟩,by have:=HC5.o.2;simp;omega,by have:=HC5.o.2;simp;omega⟩
 have z6:w5.heap.size<=(w5.setCell (xD w 2 2) (.slice (xA g2) P P)).heap.size:=qm
 clear K5
 go_upto_region 4 with fail
 obtain⟨w6,hj⟩:∃ w6,w6=w5.setCell (xD w 2 2) (.slice (xA g2) P P):=⟨_,rfl⟩
 rw[<- hj] at K6 B6 C6 z6 ⊢
 clear hj o2 t2 B5
 obtain⟨c0,c1,c2,c3⟩:=zav K6.o.a
 go_wp2_with fail
 refine(HISS.o w6 (HI.o.1.2.2.below B6.o)).mono ?_
 rintro e w7 ⟨arr,rfl,hO⟩
 have h0:=hO.below
 have hz:=h0.size
 have K7:=K6.o.on h0
 have B7:Hid (xE w w7):=zae B6.o B6.o.size h0
 have o3:=(zav K7.o).2.2.2
 have t3:=thaw K7.o 3
 have HO:Hid (Cp2 w6 w7 w6.heap.size R R fs arr):=hO
 have HC7:Hid (Own w7 w.heap.size (.slice (xA g1) N N) cs/\zaL w7 w.heap.size (.slice (xA g2) P P) ls):=⟨C6.o.1.1.below h0,zb7 C6.o.1.2 (h0.block g2 C6.o.2.2)⟩
 have z26:g2<w6.heap.size:=C6.o.2.2
 clear c0 c1 c2 c3 h0 K6 B6 hO
 obtain⟨g3,eg3⟩:∃ g3,g3=w6.heap.size:=⟨_,rfl⟩
 have z63:w.heap.size+3<=g3/\g2<g3:=qg
 rw[<- eg3] at HO ⊢
 clear eg3
 have K8:Hid (Cp3 (w7.setCell (xD w 2 3) (.slice (xA g3) R R)) w.heap.size (xH wd g N gc l P lc f R fc) xF (xH wd (xA g1) N N (xA g2) P P (xA g3) R R)):=K7.put 3 _
 have B8:Hid (xE w (w7.setCell (xD w 2 3) (.slice (xA g3) R R))):=B7.o.setCell (p:=(xD w 2 3)) (by show w.heap.size<=w.heap.size+2;omega) _
 have F8:Hid ((∀ b,b≠w.heap.size+2->(w7.setCell (xD w 2 3) (.slice (xA g3) R R)).heap[b]?=w7.heap[b]?)/\w7.heap.size=(w7.setCell (xD w 2 3) (.slice (xA g3) R R)).heap.size):=⟨fun b hb=>Below.heap_setCell _ _ _ _ hb,qm⟩
 clear K7
 go_upto_region 5 with fail
 obtain⟨w8,hp⟩:∃ w8,w8=w7.setCell (xD w 2 3) (.slice (xA g3) R R):=⟨_,rfl⟩
 rw[<- hp] at K8 B8 F8 ⊢
 clear hp o3 t3 B7
 obtain⟨c0,c1,c2,c3⟩:=zav K8.o.o
 obtain⟨q0,q1,q2,q3⟩:=zav K8.o.r
 have t0:=thaw K8.o.r 0
 have t1:=thaw K8.o.r 1
 have t2:=thaw K8.o.r 2
 have t3:=thaw K8.o.r 3
 go_wp2_with fail
 refine bodyPost_ret (v:=.agg (xH wd (xA g1) N N (xA g2) P P (xA g3) R R)) (by simp[results,results8,go_sem,q0,q1,q2,q3]) rfl ⟨g1,g2,g3,rfl,?_,?_⟩
 ·have e1:=HC3.o.2
  have e2:=HC5.o.2
  have e8:=F8.o.2
  intro w9 hs hu
  have h5:(((((w8.setCell (xD w 1 0) (J wd)).setCell (xD w 1 1) (.slice (xA g1) N N)).setCell (xD w 1 2) (.slice (xA g2) P P)).setCell (xD w 1 3) (.slice (xA g3) R R))).heap.size=w8.heap.size:=qm
  have hk:∀ b,w.heap.size+3<=b->b<w8.heap.size->w9.heap[b]?=w7.heap[b]?:=fun b q1 q2=>by
   rw[hu b qg (by rw[h5];exact q2),Below.heap_setCell _ _ _ _ (by show b≠w.heap.size+1;omega),Below.heap_setCell _ _ _ _ (by show b≠w.heap.size+1;omega),Below.heap_setCell _ _ _ _ (by show b≠w.heap.size+1;omega),Below.heap_setCell _ _ _ _ (by show b≠w.heap.size+1;omega)]
   exact F8.o.1 b qg
  rw[h5] at hs
  have o1:=zf8 HC7.o.1 (hk g1 qg qg)
  have o2:=zb7 HC7.o.2 (hk g2 qg qg)
  have hA:=(gei HO.o.top).1
  obtain⟨ad,o3,o4⟩:=HO.o.rows HN.o.2.2 qg fun b q1 q2=>hk b qg qg
  refine⟨⟨?_,zjv o2,HO.o.r2 HN.o.2.2 qg fun b q1 q2=>hk b qg qg⟩,?_,?_,by rw[h5];omega,ad,o3,fun k x hk e=>⟨(o4 k x hk e).1,by rw[h5];have:=(o4 k x hk e).2;omega⟩⟩
  ·obtain⟨a,c,e,q⟩:=o1.slice
   cases e
   exact q
  ·rw[HN.o.1];exact o1
  ·rw[HN.o.2.1];exact o2
 ·exact(((B8.o.setCell (p:=(xD w 1 0)) (by show w.heap.size<=w.heap.size+1;omega) _).setCell (p:=(xD w 1 1)) (by show w.heap.size<=w.heap.size+1;omega) _).setCell (p:=(xD w 1 2)) (by show w.heap.size<=w.heap.size+1;omega) _).setCell (p:=(xD w 1 3)) (by show w.heap.size<=w.heap.size+1;omega) _
theorem zgB(wd:Int)(g l f:Od)(gc lc fc:Nat)(cs:Lp)(ls:List Int)(fs:List (List Int))(w:World)(hM:ScM w g l f cs ls fs)(hS:zc8 cs ls fs) :
  Calls SqP.prog 8 #[.agg (xH wd g cs.length gc l ls.length lc f fs.length fc)] w fun e w'=>∃ g1 g2 g3,e=.returned (.agg (xH wd (xA g1) cs.length cs.length (xA g2) ls.length ls.length (xA g3) fs.length fs.length))/\ScM w' (xA g1) (xA g2) (xA g3) cs ls fs/\xE w w' :=
 (zgC wd g l f gc lc fc cs ls fs w hM hS).mono fun e w' ⟨g1,g2,g3,h1,h2,h3⟩=>⟨g1,g2,g3,h1,h2.m,h3⟩
theorem zbJ(o1 o2:Obj)(w:World):((w.alloc o1).alloc o2).heap[w.heap.size]?=some o1/\((w.alloc o1).alloc o2).heap[w.heap.size+1]?=some o2/\xE w ((w.alloc o1).alloc o2):=by
 refine⟨?_,?_,bel⟩
 ·show ((w.heap.push o1).push o2)[w.heap.size]?=some o1
  rw[Array.getElem?_push,if_neg qm,Array.getElem?_push,if_pos rfl]
 ·show ((w.heap.push o1).push o2)[w.heap.size+1]?=some o2
  rw[Array.getElem?_push,if_pos qm]
theorem zoj(wd:Int)(g l f g2 l2 f2:Od)(gc lc fc gc2 lc2 fc2:Nat)(cs:Lp)(ls:List Int)(fs:List (List Int))(w:World)(hg:zaf w g cs)(hl:zcA w l ls)(hf:zc7 w f fs)(h2:zaf w g2 cs)(h3:zcA w l2 ls)(h4:zc7 w f2 fs)(hS:zc8 cs ls fs) :
  Calls SqP.prog 11 #[.agg (xH wd g cs.length gc l ls.length lc f fs.length fc),.agg (xH wd g2 cs.length gc2 l2 ls.length lc2 f2 fs.length fc2)] w (xB w (.bool true)):=by
 obtain⟨w2,h1⟩:∃ w2,w2=(w.alloc (.cells (xH wd g cs.length gc l ls.length lc f fs.length fc) 35)).alloc (.cells (xH wd g2 cs.length gc2 l2 ls.length lc2 f2 fs.length fc2) 35):=⟨_,rfl⟩
 obtain⟨x1,x2,h0⟩:=zbJ (.cells (xH wd g cs.length gc l ls.length lc f fs.length fc) 35) (.cells (xH wd g2 cs.length gc2 l2 ls.length lc2 f2 fs.length fc2) 35) w
 rw[<- h1] at x1 x2 h0
 have H2:Hid (xE w w2):=h0
 have X2:Hid (w2.heap[w.heap.size]?=some (.cells (xH wd g cs.length gc l ls.length lc f fs.length fc) 35)/\w2.heap[w.heap.size+1]?=some (.cells (xH wd g2 cs.length gc2 l2 ls.length lc2 f2 fs.length fc2) 35)):=⟨x1,x2⟩
 have hG:=(zg5 (aLt:=Sq.altP)) wd wd g g2 gc gc2 cs cs w2 (hg.below h0) (h2.below h0) hS.1 hS.1
 have eG:eqG wd wd cs cs=true:=by simp[eqG]
 rw[eG] at hG
 have HI:Hid (∀ w',xE w w'->Calls SqP.prog 10 #[.slice l ls.length lc,.slice l2 ls.length lc2] w' fun e w''=>e=.returned (.bool true)/\Below w'.heap.size w' w''):=fun w' hb=>ziR l l2 lc lc2 ls w' (hl.below hb) (h3.below hb) hS.2.1
 have HJ:Hid (∀ w',xE w w'->Calls SqP.prog 36 #[.slice f fs.length fc,.slice f2 fs.length fc2] w' fun e w''=>e=.returned (.bool true)/\Below w'.heap.size w' w''):=fun w' hb=>zog f f2 fc fc2 fs w' (hf.below hb) (h4.below hb) hS.2.2.1 hS.2.2.2
 clear eG hg hl hf h2 h3 h4 hS x1 x2 h0
 obtain⟨N,hN⟩:∃ N,cs.length=N:=⟨_,rfl⟩
 obtain⟨P,hP⟩:∃ P,ls.length=P:=⟨_,rfl⟩
 obtain⟨R,hR⟩:∃ R,fs.length=R:=⟨_,rfl⟩
 rw[hN] at hG
 rw[hP] at HI
 rw[hR] at HJ
 rw[hN,hP,hR] at X2 h1 ⊢
 clear hN hP hR
 go_enter (zfx func11),ntmps11
 go_upto_region 1 with fail
 rw[<- h1]
 clear h1
 obtain⟨c0,c1,c2,c3⟩:=zav X2.o.1
 obtain⟨d0,d1,d2,d3⟩:=zav X2.o.2
 clear X2
 go_wp2_with fail
 refine hG.mono ?_
 rintro e w3 ⟨rfl,hb⟩
 have H3:Hid (xE w w3):=zae H2.o H2.o.size hb
 replace c2:=zaa hb c2;replace c3:=zaa hb c3;replace d2:=zaa hb d2;replace d3:=zaa hb d3
 clear hb hG c0 c1 d0 d1 H2
 go_wp2_with fail
 refine(HI.o w3 H3.o).mono ?_
 rintro e w4 ⟨rfl,hb⟩
 have H4:Hid (xE w w4):=zae H3.o H3.o.size hb
 replace c3:=zaa hb c3;replace d3:=zaa hb d3
 clear hb c2 d2 H3
 go_wp2_with fail
 refine(HJ.o w4 H4.o).mono ?_
 rintro e w5 ⟨rfl,hb⟩
 go_wp2_with fail
 go_ret
 exact⟨rfl,zae H4.o H4.o.size hb⟩
end Sp
namespace Sp
open Go.RowKit Go.Maps Go.ChangeShapes
attribute [local go_sem ↓] Go.wp_at_zero Go.wp_at_succ
def zjS(row:List Int)(x:Int)(k:Nat):List Int:=(row.filter fun y=>y == x).map fun _=>(k:Int)
def tch(fs:List (List Int)):Nat->Int->List Int
 | 0,_=>[]
 | k+1,x=>tch fs k x++zjS (fs.getD k []) x k
def zcX(fs:List (List Int))(k j:Nat)(x:Int):List Int:=tch fs k x++zjS ((fs.getD k []).take j) x k
theorem zny(fs:List (List Int))(k:Nat):zcX fs k 0=tch fs k:=by funext x;simp[zcX,zjS]
theorem zpW(fs:List (List Int))(k:Nat):zcX fs k (fs.getD k []).length=tch fs (k+1):=by funext x;simp[zcX,tch]
theorem zgA(l:List Int)(j:Nat)(hj:j<l.length):l.take (j+1)=l.take j++[l.getD j 0]:=by
 rw[List.take_add_one,List.getElem?_eq_getElem hj]
 simp[List.getD,hj]
theorem znx(fs:List (List Int))(k j:Nat)(hj:j<(fs.getD k []).length)(x:Int):zcX fs k (j+1) x=if x=(fs.getD k []).getD j 0 then zcX fs k j x++[(k:Int)] else zcX fs k j x:=by
 unfold zcX zjS
 rw[zgA _ _ hj,List.filter_append,List.map_append]
 generalize (fs.getD k []).getD j 0=v
 generalize (fs.getD k []).take j=l
 by_cases q:x=v
 ·rw[if_pos q,<- q]
  simp
 ·rw[if_neg q]
  have:¬ v=x:=fun e=>q e.symm
  simp[this]
theorem zq1{a b:List Int}(h:(lits .i64 a:List (DataW Unit))=lits .i64 b):a=b:=by
 refine(List.map_inj_right (f:=fun n=>(DataW.lit (.int .i64 n):DataW Unit)) fun x y e=>?_).1 h
 cases e
 rfl
def zfB(D:DataW Unit)(x:Int)(l:List Int):Prop:=(D.atKey (.int .i64 x) .nil=.nil/\l=[])\/D.atKey (.int .i64 x) .nil=.slice (lits .i64 l) []
theorem zfB.zs{D:DataW Unit}{x:Int}{l:List Int}(h:zfB D x l){w:World}{base:Nat}{e:TypeId}{v:Value}{zs:List Int}(h0:D.atKey (.int .i64 x) .nil=rowDatum .i64 v zs)(ho:w.ownsInts base e .i64 v zs):zs=l:=by
 rcases ho.datum (H:=Unit) with ⟨h1,h2⟩|h1
 ·rcases h with ⟨_,h3⟩|h3
  ·rw[h2,h3]
  ·rw[h0,h1] at h3;cases h3
 ·rcases h with ⟨h2,_⟩|h3
  ·rw[h0,h1] at h2;cases h2
  ·rw[h0,h1] at h3
   exact zq1 (DataW.slice.inj h3).1
def ze9(w:World)(B n:Nat)(F:Int->List Int):Prop:=∃ D:DataW Unit,w.ownsGroups SqP.prog 3 (B+1) 3 .i64 B n D/\∀ x:Int,zfB D x (F x)
theorem zm8(w:World):ze9 (w.alloc (.map #[] 0)) w.heap.size 0 fun _=>[]:=⟨.map [],World.ownsGroups_made _ _ _ _ _,fun x=>.inl ⟨rfl,rfl⟩⟩
theorem zm7{D:DataW Unit}(hD:IsMap D)(h:∀ x:Int,zfB D x (F x))(x0:Int)(l:List Int)(hl:l≠[]){e:TypeId}(ho:w.ownsInts base e .i64 v l):∀ x:Int,zfB (D.put (.int .i64 x0) (rowDatum .i64 v l)) x (if x=x0 then l else F x):=by
 intro x
 unfold zfB
 by_cases q:x=x0
 ·subst q
  rw[if_pos rfl,atKey_put_same hD (by trivial),ho.datum_pos hl]
  exact .inr rfl
 ·rw[if_neg q,atKey_put_other (fun e=>q (by cases e;rfl))]
  exact h x
theorem zix(w:World):(zeroValue 25).run SqP.prog w=.ok (.slice none 0 0) w:=qh
theorem zqV:(SqP.prog.info? 3).map (fun i=>(i.zero,i.size,i.bytes))=some (some (.int .i64 0),1,8):=qh
theorem zoK:Keyed SqP.prog 3:=int_keyed SqP.underlying3
theorem ziW{D:DataW Unit}(h:w.ownsGroups SqP.prog 3 base 3 .i64 B n D):IsMap D:=by
 obtain⟨_,_,_,_,_,e,_⟩:=h
 exact⟨_,e⟩
theorem ze9.lt(h:ze9 w B n F):B<w.heap.size:=by
 obtain⟨_,⟨_,_,h,_⟩,_⟩:=h
 exact(gei h).1
def zhA(fs:List (List Int)):Prop:=fs.length<=1000/\∀ k,k<fs.length->(fs.getD k []).length<=1000/\∀ j,j<(fs.getD k []).length->0<=(fs.getD k []).getD j 0/\(fs.getD k []).getD j 0<=1000
theorem zkP(a:Od)(cap:Nat)(fs:List (List Int))(w:World)(h:zc7 w a fs)(hs:zhA fs) :
  Calls SqP.prog 34 #[.slice a fs.length cap] w fun e w'=>∃ n,e=.returned (.map (some w.heap.size))/\n<=fs.length * 1000/\ze9 w' w.heap.size n (tch fs fs.length)/\xE w w':=by
 have hG:=@run_makeMap SqP.prog
 obtain⟨i0,hi,hq,hu,hw⟩:=info_parts zqV
 obtain⟨N,hN⟩:∃ N,fs.length=N:=⟨_,rfl⟩
 have HN:Hid (fs.length=N):=hN
 have HS:Hid (zhA fs):=hs
 have hm:=hs.1
 rw[hN] at hm ⊢
 clear hN hs
 go_enter (zfx func34),ntmps34
 go_wp2_with fail
 go_loopw [11] (fun i wr=>∃ k n:Nat,k<=N/\i=.int .i64 k/\n<=k * 1000/\ze9 wr w.heap.size n (tch fs k)/\xE w wr) (fun i _=>N - (intOf i).toNat)
 case atStart=>exact⟨0,0,Nat.zero_le _,rfl,qg,zm8 w,bel⟩
 case round =>
  rename World=>wo
  obtain⟨k,n,hk,rfl,hn,hS,hb⟩:=hrel
  by_cases hlt:k<N
  ·obtain⟨b,off,a',c',rfl,x0,hR⟩:=h.at (k:=k) qa
   replace x0:=zaa hb x0
   obtain⟨hf,hr2⟩:=HS.o.2 k qa
   have hE:(k:Int)<(N:Int):=qg
   have wk:IntKind.i64.wrap ((k:Int)+1)=(k:Int)+1:=IntWalk.i64_in _ qg
   have HT:Hid (∀ j,j<(fs.getD k []).length->∀ x,zcX fs k (j+1) x=if x=(fs.getD k []).getD j 0 then zcX fs k j x++[(k:Int)] else zcX fs k j x):=fun j hj x=>znx fs k j hj x
   have HZ:Hid (zcX fs k 0=tch fs k/\zcX fs k (fs.getD k []).length=tch fs (k+1)):=⟨zny fs k,zpW fs k⟩
   obtain⟨xs,ex⟩:∃ xs,fs.getD k []=xs:=⟨_,rfl⟩
   rw[ex] at x0 hR hf hr2 HT HZ
   obtain⟨m,em⟩:∃ m,xs.length=m:=⟨_,rfl⟩
   have HM:Hid (xs.length=m):=em
   rw[em] at x0 hf hr2 HT HZ
   have hy:ze9 wo w.heap.size n (zcX fs k 0):=by rw[HZ.o.1];exact hS
   have HR:Hid (zcA w a' xs):=hR
   clear h ex em hS hR
   go_wp2_with fail
   go_loopw [18] (fun i wr=>∃ j n2:Nat,j<=m/\i=.int .i64 j/\n2<=n+j/\ze9 wr w.heap.size n2 (zcX fs k j)/\xE w wr) (fun i _=>m - (intOf i).toNat)
   case atStart=>exact⟨0,n,Nat.zero_le _,rfl,qg,hy,hb⟩
   case round =>
    rename World=>wi
    obtain⟨j,n2,hj,rfl,hJ,⟨D,h0,hD⟩,h4⟩:=hrel
    by_cases hlt2:j<m
    ·obtain⟨g,o,rfl,_,y0⟩:=(HR.o.below h4).at (i:=j) (by have:=HM.o;omega)
     have hv:=hr2 j hlt2
     obtain⟨v,ev⟩:∃ v,xs.getD j 0=v:=⟨_,rfl⟩
     have HT2:Hid (∀ x,zcX fs k (j+1) x=if x=v then zcX fs k j x++[(k:Int)] else zcX fs k j x):=fun x=>by rw[HT.o j hlt2 x,ev]
     rw[ev] at y0 hv
     have hF:(j:Int)<(m:Int):=qg
     have wj:IntKind.i64.wrap ((j:Int)+1)=(j:Int)+1:=IntWalk.i64_in _ qg
     have hl:keyOf SqP.prog 3 (.int .i64 v)=some (.int .i64 v):=keyOf_int_mk SqP.underlying3 (WalkArith.wf_i64 qg)
     clear HT hr2 ev
     go_wp2_with (first
      | (at_lookup;refine wpList_lookup_groups _ rfl _ _ 67 rfl 3 25 3 .i64 zoK SqP.underlying67 (zix _) (w.heap.size+1) w.heap.size n2 D rfl h0 qs _ _ rfl hl ?_;intro u zs hg h1 hK h5)
      | (at_builtin;refine wpList_append_own_at _ rfl _ _ 25 rfl (w.heap.size+1) 3 i0 (.int .i64 0) 1 8 SqP.underlying25 hi hq hu hw rfl qj _ _ _ rfl (h1.1.alloc _) (xC wi 0) 1 1 [.int .i64 k] rfl rfl (cell_one_new _ _ _) (ints_oneCell .i64 [(k:Int)]) qs qg (by simp;have:=h4.size;omega) ?_;intro v' w1 hown' h2 hp h7)
      | (at_mapUpdate;refine wpList_mapUpdate_back _ rfl _ _ _ 67 rfl h5 rfl rfl rfl ((World.grownBy_alloc _ _ _).trans h2) (h1.appended hown' (WalkArith.wf_i64 qg)) qn (h7.imp id (fun h=>⟨_,h,qm⟩)) ?_;intro w2 h6 h3)
      | fail)
     have h8:=(World.grownBy_alloc wi _ _).trans h2
     have ezs:=(hD v).zs hg h1
     have h9:=zm7 (ziW h0) hD v (zs++[(k:Int)]) qm (h1.appended hown' (WalkArith.wf_i64 qg))
     have he:ze9 w2 w.heap.size (n2+1) (zcX fs k (j+1)):=⟨_,h6,fun x=>by
      have q:=h9 x
      rw[HT2.o x]
      by_cases e:x=v
      ·rw[if_pos e] at q ⊢
       rw[e,<- ezs]
       rw[e] at q
       exact q
      ·rw[if_neg e] at q ⊢
       exact q⟩
     have hz:=h4.groups h1 h8 h3 h4.size (Nat.le_succ _) (Nat.le_refl _)
     clear h0 hD h9 h6 h1 hg h5 h8 h2 h3 hown' h7 hp
     go_wp2_with fail
     go_roundw
     case rel=>exact⟨j+1,n2+1,qg,by go_num,qg,he,hz⟩
     case measure=>exact qe
    ·have hA:¬ (j:Int)<(m:Int):=qg
     obtain rfl:j=m:=qg
     have he:ze9 wi w.heap.size n2 (tch fs (k+1)):=by rw[<- HZ.o.2];exact⟨D,h0,hD⟩
     clear h0 hD
     go_wp2_with fail
     go_roundw
     case rel=>exact⟨k+1,n2,qg,by go_num,qg,he,h4⟩
     case measure=>exact qe
  ·have hA:¬ (k:Int)<(N:Int):=qg
   obtain rfl:k=N:=qg
   clear h
   go_wp2_with fail
   go_ret
   exact⟨rfl,n,hn,hS,hb⟩
