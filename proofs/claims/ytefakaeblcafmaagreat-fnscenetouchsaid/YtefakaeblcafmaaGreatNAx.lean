/- Part. -/
import Derived.Maps.OwnRows
import Derived.Maps.Views
import Derived.WalkSpells
import Derived.Test.YtefakaeblcafmaaGreatNAv
set_option maxHeartbeats 2000000
set_option maxRecDepth 100000
set_option linter.unusedVariables false
namespace Go.Proofs.YtefakaeblcafmaaGreat
variable{wd:Int}{F:Int->List Int}{cs:List (Int × Int)}{fs:List (List Int)}{l ls:List Int}{base:Nat}{w:World}
open _root_.Go.Proofs.Tryz
namespace Sp
open Go.RowKit Go.Maps Go.ChangeShapes
attribute [local go_sem ↓] Go.wp_at_zero Go.wp_at_succ
def ziO(row:List Int)(x:Int)(k:Nat):List Int:=(row.filter fun y=>y == x).map fun _=>(k:Int)
def tch(fs:List (List Int)):Nat->Int->List Int
 | 0,_=>[]
 | k+1,x=>tch fs k x++ziO (fs.getD k []) x k
def zcD(fs:List (List Int))(k j:Nat)(x:Int):List Int:=tch fs k x++ziO ((fs.getD k []).take j) x k
theorem zmf(fs:List (List Int))(k:Nat):zcD fs k 0=tch fs k:=by funext x;simp[zcD,ziO]
theorem zon(fs:List (List Int))(k:Nat):zcD fs k (fs.getD k []).length=tch fs (k+1):=by funext x;simp[zcD,tch]
theorem zom(l:List Int)(j:Nat)(hj:j<l.length):l.take (j+1)=l.take j++[l.getD j 0]:=by
 rw[List.take_add_one,List.getElem?_eq_getElem hj]
 simp[List.getD,hj]
theorem zme(fs:List (List Int))(k j:Nat)(hj:j<(fs.getD k []).length)(x:Int):zcD fs k (j+1) x=if x=(fs.getD k []).getD j 0 then zcD fs k j x++[(k:Int)] else zcD fs k j x:=by
 unfold zcD ziO
 rw[zom _ _ hj,List.filter_append,List.map_append]
 generalize (fs.getD k []).getD j 0=v
 generalize (fs.getD k []).take j=l
 by_cases q:x=v
 ·rw[if_pos q,<- q]
  simp
 ·rw[if_neg q]
  have:¬ v=x:=fun e=>q e.symm
  simp[this]
theorem zpm{a b:List Int}(h:(lits .i64 a:List (DataW Unit))=lits .i64 b):a=b:=by
 refine(List.map_inj_right (f:=fun n=>(DataW.lit (.int .i64 n):DataW Unit)) fun x y e=>?_).1 h
 cases e
 rfl
def zgx(D:DataW Unit)(x:Int)(l:List Int):Prop:=(D.atKey (.int .i64 x) .nil=.nil/\l=[])\/D.atKey (.int .i64 x) .nil=.slice (lits .i64 l) []
theorem zgx.zs{D:DataW Unit}{x:Int}{l:List Int}(h:zgx D x l){w:World}{base:Nat}{e:TypeId}{v:Value}{zs:List Int}(hat:D.atKey (.int .i64 x) .nil=rowDatum .i64 v zs)(ho:w.ownsInts base e .i64 v zs):zs=l:=by
 rcases ho.datum (H:=Unit) with ⟨h1,h2⟩|h1
 ·rcases h with ⟨_,h3⟩|h3
  ·rw[h2,h3]
  ·rw[hat,h1] at h3;cases h3
 ·rcases h with ⟨h2,_⟩|h3
  ·rw[hat,h1] at h2;cases h2
  ·rw[hat,h1] at h3
   exact zpm (DataW.slice.inj h3).1
def zgY(w:World)(B n:Nat)(F:Int->List Int):Prop:=∃ D:DataW Unit,w.ownsGroups SqP.prog 3 (B+1) 3 .i64 B n D/\∀ x:Int,zgx D x (F x)
theorem zlP(w:World):zgY (w.alloc (.map #[] 0)) w.heap.size 0 fun _=>[]:=⟨.map [],World.ownsGroups_made _ _ _ _ _,fun x=>.inl ⟨rfl,rfl⟩⟩
theorem zlO{D:DataW Unit}(hD:IsMap D)(h:∀ x:Int,zgx D x (F x))(x0:Int)(l:List Int)(hl:l≠[]){e:TypeId}{v:Value}(ho:w.ownsInts base e .i64 v l):∀ x:Int,zgx (D.put (.int .i64 x0) (rowDatum .i64 v l)) x (if x=x0 then l else F x):=by
 intro x
 unfold zgx
 by_cases q:x=x0
 ·subst q
  rw[if_pos rfl,atKey_put_same hD (by trivial),ho.datum_pos hl]
  exact .inr rfl
 ·rw[if_neg q,atKey_put_other (fun e=>q (by cases e;rfl))]
  exact h x
theorem zk2(w:World):(zeroValue 26).run SqP.prog w=.ok (.slice none 0 0) w:=qh
theorem zpg:(SqP.prog.info? 3).map (fun i=>(i.zero,i.size,i.bytes))=some (some (.int .i64 0),1,8):=qh
theorem zqy:Keyed SqP.prog 3:=int_keyed SqP.underlying3
theorem zh4{B n:Nat}{D:DataW Unit}(h:w.ownsGroups SqP.prog 3 base 3 .i64 B n D):IsMap D:=by
 obtain⟨_,_,_,_,_,e,_⟩:=h
 exact⟨_,e⟩
theorem zgY.lt{B n:Nat}(h:zgY w B n F):B<w.heap.size:=by
 obtain⟨_,⟨_,_,h,_⟩,_⟩:=h
 exact(gei h).1
def ziX(fs:List (List Int)):Prop:=fs.length<=1000/\∀ k,k<fs.length->(fs.getD k []).length<=1000/\∀ j,j<(fs.getD k []).length->0<=(fs.getD k []).getD j 0/\(fs.getD k []).getD j 0<=1000
theorem zjL(a:Option Addr)(cap:Nat)(fs:List (List Int))(w:World)(h:zgj w a fs)(hs:ziX fs) :
  Calls SqP.prog 15 #[.slice a fs.length cap] w fun e w'=>∃ n,e=.returned (.map (some w.heap.size))/\n<=fs.length * 1000/\zgY w' w.heap.size n (tch fs fs.length)/\Below w.heap.size w w':=by
 have hmm:=@run_makeMap SqP.prog
 obtain⟨i0,hi,hz0,hz1,hz2⟩:=info_parts zpg
 obtain⟨N,hN⟩:∃ N,fs.length=N:=⟨_,rfl⟩
 have HN:Hid (fs.length=N):=hN
 have HS:Hid (ziX fs):=hs
 have hm:=hs.1
 rw[hN] at hm ⊢
 clear hN hs
 go_enter (zfx func15),ntmps15
 go_wp2_with fail
 go_loopw [11] (fun i wr=>∃ k n:Nat,k<=N/\i=.int .i64 k/\n<=k * 1000/\zgY wr w.heap.size n (tch fs k)/\Below w.heap.size w wr) (fun i _=>N - (intOf i).toNat)
 case atStart=>exact⟨0,0,Nat.zero_le _,rfl,qg,zlP w,bel⟩
 case round =>
  rename World=>wo
  obtain⟨k,n,hk,rfl,hn,hS,hb⟩:=hrel
  by_cases hlt:k<N
  ·obtain⟨b,off,a',c',rfl,x0,hR⟩:=h.at (k:=k) qc
   replace x0:=zad hb x0
   obtain⟨hr1,hr2⟩:=HS.out.2 k qc
   have hltI:(k:Int)<(N:Int):=qg
   have wk:IntKind.i64.wrap ((k:Int)+1)=(k:Int)+1:=IntWalk.i64_in _ qg
   have HT:Hid (∀ j,j<(fs.getD k []).length->∀ x,zcD fs k (j+1) x=if x=(fs.getD k []).getD j 0 then zcD fs k j x++[(k:Int)] else zcD fs k j x):=fun j hj x=>zme fs k j hj x
   have HZ:Hid (zcD fs k 0=tch fs k/\zcD fs k (fs.getD k []).length=tch fs (k+1)):=⟨zmf fs k,zon fs k⟩
   obtain⟨xs,ex⟩:∃ xs,fs.getD k []=xs:=⟨_,rfl⟩
   rw[ex] at x0 hR hr1 hr2 HT HZ
   obtain⟨m,em⟩:∃ m,xs.length=m:=⟨_,rfl⟩
   have HM:Hid (xs.length=m):=em
   rw[em] at x0 hr1 hr2 HT HZ
   have hS0:zgY wo w.heap.size n (zcD fs k 0):=by rw[HZ.out.1];exact hS
   have HR:Hid (zcL w a' xs):=hR
   clear h ex em hS hR
   go_wp2_with fail
   go_loopw [18] (fun i wr=>∃ j n2:Nat,j<=m/\i=.int .i64 j/\n2<=n+j/\zgY wr w.heap.size n2 (zcD fs k j)/\Below w.heap.size w wr) (fun i _=>m - (intOf i).toNat)
   case atStart=>exact⟨0,n,Nat.zero_le _,rfl,qg,hS0,hb⟩
   case round =>
    rename World=>wi
    obtain⟨j,n2,hj,rfl,hn2,⟨D,hown,hD⟩,hb2⟩:=hrel
    by_cases hlt2:j<m
    ·obtain⟨g,o,rfl,_,y0⟩:=(HR.out.below hb2).at (i:=j) (by have:=HM.out;omega)
     have hv:=hr2 j hlt2
     obtain⟨v,ev⟩:∃ v,xs.getD j 0=v:=⟨_,rfl⟩
     have HT2:Hid (∀ x,zcD fs k (j+1) x=if x=v then zcD fs k j x++[(k:Int)] else zcD fs k j x):=fun x=>by rw[HT.out j hlt2 x,ev]
     rw[ev] at y0 hv
     have hltJ:(j:Int)<(m:Int):=qg
     have wj:IntKind.i64.wrap ((j:Int)+1)=(j:Int)+1:=IntWalk.i64_in _ qg
     have hkey:keyOf SqP.prog 3 (.int .i64 v)=some (.int .i64 v):=keyOf_int_mk SqP.underlying3 (WalkArith.wf_i64 qg)
     clear HT hr2 ev
     go_wp2_with (first
      | (at_lookup;refine wpList_lookup_groups _ rfl _ _ 42 rfl 3 26 3 .i64 zqy SqP.underlying42 (zk2 _) (w.heap.size+1) w.heap.size n2 D rfl hown qp _ _ rfl hkey ?_;intro u zs hat hoi hzl hback)
      | (at_builtin;refine wpList_append_own_at _ rfl _ _ 26 rfl (w.heap.size+1) 3 i0 (.int .i64 0) 1 8 SqP.underlying26 hi hz0 hz1 hz2 rfl qi _ _ _ rfl (hoi.1.alloc _) ⟨wi.heap.size,0,none⟩ 1 1 [.int .i64 k] rfl rfl (cell_one_new _ _ _) (ints_oneCell .i64 [(k:Int)]) qp qg (by simp;have:=hb2.size;omega) ?_;intro v' w1 hown' hgrow hnil hloc)
      | (at_mapUpdate;refine wpList_mapUpdate_back _ rfl _ _ _ 42 rfl hback rfl rfl rfl ((World.grownBy_alloc _ _ _).trans hgrow) (hoi.appended hown' (WalkArith.wf_i64 qg)) ql (hloc.imp id (fun h=>⟨_,h,qk⟩)) ?_;intro w2 hown2 hgrow2)
      | fail)
     have hall:=(World.grownBy_alloc wi _ _).trans hgrow
     have ezs:=(hD v).zs hat hoi
     have hput:=zlO (zh4 hown) hD v (zs++[(k:Int)]) qk (hoi.appended hown' (WalkArith.wf_i64 qg))
     have hS2:zgY w2 w.heap.size (n2+1) (zcD fs k (j+1)):=⟨_,hown2,fun x=>by
      have q:=hput x
      rw[HT2.out x]
      by_cases e:x=v
      ·rw[if_pos e] at q ⊢
       rw[e,<- ezs]
       rw[e] at q
       exact q
      ·rw[if_neg e] at q ⊢
       exact q⟩
     have hb3:=hb2.groups hoi hall hgrow2 hb2.size (Nat.le_succ _) (Nat.le_refl _)
     clear hown hD hput hown2 hoi hat hback hall hgrow hgrow2 hown' hloc hnil
     go_wp2_with fail
     go_roundw
     case rel=>exact⟨j+1,n2+1,qg,by go_num,qg,hS2,hb3⟩
     case measure=>exact qe
    ·have hnl:¬ (j:Int)<(m:Int):=qg
     obtain rfl:j=m:=qg
     have hS2:zgY wi w.heap.size n2 (tch fs (k+1)):=by rw[<- HZ.out.2];exact⟨D,hown,hD⟩
     clear hown hD
     go_wp2_with fail
     go_roundw
     case rel=>exact⟨k+1,n2,qg,by go_num,qg,hS2,hb2⟩
     case measure=>exact qe
  ·have hnl:¬ (k:Int)<(N:Int):=qg
   obtain rfl:k=N:=qg
   clear h
   go_wp2_with fail
   go_ret
   exact⟨rfl,n,hn,hS,hb⟩
end Sp
namespace Sp
open Go.RowKit
attribute [local go_sem ↓] Go.wp_at_zero Go.wp_at_succ
theorem zln(a:Option Addr)(cap:Nat)(xs:List Int)(x:Int)(w:World)(h:zcL w a xs)(hm:xs.length<=1048576) :
  Calls SqP.prog 25 #[.slice a xs.length cap,.int .i64 x] w fun e w'=>e=.returned (.bool (decide (x∈xs)))/\Below w.heap.size w w':=by
 obtain⟨N,hN⟩:∃ N,xs.length=N:=⟨_,rfl⟩
 have HN:Hid (xs.length=N):=hN
 rw[hN] at hm ⊢
 clear hN
 go_enter (zfx func25),ntmps25
 go_wp2_with fail
 go_loopw [5] (fun ii wr=>∃ i:Nat,i<=N/\ii=.int .i64 i/\(∀ j,j<i->¬ xs.getD j 0=x)/\Below w.heap.size w wr) (fun ii _=>N - (intOf ii).toNat)
 case atStart=>exact⟨0,Nat.zero_le _,rfl,fun j h=>qg,Below.refl _ _⟩
 case round =>
  rename World=>wo
  obtain⟨i,hi,rfl,hne,hb⟩:=hrel
  have HNE:Hid (∀ j,j<i->¬ xs.getD j 0=x):=hne
  clear hne
  by_cases hlt:i<N
  ·obtain⟨g,o,rfl,_,x0⟩:=(h.below hb).at (i:=i) qc
   have hltI:(i:Int)<(N:Int):=qg
   have wk:IntKind.i64.wrap ((i:Int)+1)=(i:Int)+1:=IntWalk.i64_in _ qg
   obtain⟨v,ev⟩:∃ v,xs.getD i 0=v:=⟨_,rfl⟩
   have HV:Hid (xs.getD i 0=v):=ev
   rw[ev] at x0
   clear h ev
   by_cases hv:v=x
   ·have bl:(v == x)=true:=by simp[hv]
    have HX:Hid (x∈xs):=by
     have hi2:i<xs.length:=qc
     have e2:xs[i]=x:=by
      have q:=HV.out
      simp only[List.getD,List.getElem?_eq_getElem hi2,Option.getD_some] at q
      rw[q,hv]
     exact e2 ▸ List.getElem_mem hi2
    have HVX:Hid (v=x):=hv
    clear hv
    go_wp2_with fail
    go_ret
    exact⟨by simp[HX.out],hb⟩
   ·have bl:(v == x)=false:=by simp[hv]
    have HVX:Hid (¬ v=x):=hv
    clear hv
    go_wp2_with fail
    go_roundw
    case rel =>
     refine⟨i+1,qg,by go_num,fun j hj=>?_,hb⟩
     rcases Nat.lt_succ_iff_lt_or_eq.1 hj with q|rfl
     ·exact HNE.out j q
     ·rw[HV.out];exact HVX.out
    case measure=>exact qe
  ·have hnl:¬ (i:Int)<(N:Int):=qg
   have HX:Hid (¬ x∈xs):=fun hx=>by
    obtain⟨j,hj,e⟩:=List.getElem_of_mem hx
    refine HNE.out j qc ?_
    simp[List.getD,hj,e]
   clear h
   go_wp2_with fail
   go_ret
   exact⟨by simp[HX.out],hb⟩
def zaI(fs:List (List Int)):Nat->Int->List Int
 | 0,_=>[]
 | k+1,x=>if x∈fs.getD k [] then zaI fs k x++[(k:Int)] else zaI fs k x
theorem zcq(fs:List (List Int))(x:Int):∀ k,(zaI fs k x).length<=k
 | 0=>Nat.le_refl _
 | k+1=>by
  have:=zcq fs x k
  unfold zaI
  split
  ·simp;omega
  ·omega
theorem zgR(fs:List (List Int))(x:Int):∀ k,(∀ j,j<k->(fs.getD j []).Nodup)->tch fs k x=zaI fs k x
 | 0,_=>rfl
 | k+1,h=>by
  have ih:=zgR fs x k (fun j hj=>h j qg)
  have hn:=h k qg
  unfold tch zaI ziO
  rw[ih]
  have key:∀ l:List Int,l.Nodup->(l.filter fun y=>y == x).map (fun _=>(k:Int))=if x∈l then [(k:Int)] else []:=by
   intro l
   induction l with
   | nil=>intro _;rfl
   | cons y l ih =>
    intro hl
    obtain⟨h1,h2⟩:=List.nodup_cons.1 hl
    by_cases q:y=x
    ·subst q
     have:l.filter (fun z=>z == y)=[]:=List.filter_eq_nil_iff.2 fun z hz e=>h1 (by rw[<- (by simpa using e:z=y)];exact hz)
     simp[this]
    ·have q':¬ x=y:=fun e=>q e.symm
     have e2:=ih h2
     simp only[List.filter_cons,List.mem_cons,q',false_or]
     rw[if_neg (by simpa using q)]
     exact e2
  rw[key _ hn]
  split
  ·rfl
  ·simp
theorem znf:(SqP.prog.info? 3).map (fun i=>(i.zero,i.size,i.bytes))=some (some (.int .i64 0),1,8):=qh
theorem zie(wd x:Int)(g l a:Option Addr)(gc lc cap n p:Nat)(fs:List (List Int))(w:World)(h:zgj w a fs)(hs:ziX fs) :
  Calls SqP.prog 16 #[.agg #[.int .i64 wd,.slice g n gc,.slice l p lc,.slice a fs.length cap],.int .i64 x] w fun e w'=>∃ v,e=.returned v/\zcu w' w.heap.size v (zaI fs fs.length x)/\Below w.heap.size w w':=by
 obtain⟨i0,hi,iz0,iz1,iz2⟩:=info_parts znf
 obtain⟨w2,hw2⟩:∃ w2,w2=w.alloc (.cells #[.int .i64 wd,.slice g n gc,.slice l p lc,.slice a fs.length cap] 29):=⟨_,rfl⟩
 obtain⟨x1,hb2⟩:=zbV (.cells #[.int .i64 wd,.slice g n gc,.slice l p lc,.slice a fs.length cap] 29) w
 rw[<- hw2] at x1 hb2
 have hz2:w2.heap.size=w.heap.size+1:=by rw[hw2];simp
 have hbE:Below w2.heap.size w2 (w2.alloc (.cells #[] 3)):=(Below.refl _ _).alloc (Nat.le_refl _) _
 have hO:zcu (w2.alloc (.cells #[] 3)) (w.heap.size+1) (.slice (some ⟨w2.heap.size,0,none⟩) 0 0) [] :=
  ⟨rfl,Or.inr ⟨w2.heap.size,0,#[],rfl,qg,heap_alloc_new w2 _,Nat.le_refl _,qp,rfl,rfl⟩⟩
 have hB1:=zai hb2 hb2.size hbE
 obtain⟨N,hN⟩:∃ N,fs.length=N:=⟨_,rfl⟩
 have HN:Hid (fs.length=N):=hN
 have HS:Hid (ziX fs):=hs
 have hm:=hs.1
 rw[hN] at hm x1 hw2 ⊢
 have c3:=zad hbE (zaw x1).2.2.2
 clear hN hs x1 hbE hb2
 go_enter (zfx func16),ntmps16
 go_upto_region 1 with fail
 rw[<- hw2]
 clear hw2
 go_wp2_with fail
 obtain⟨w3,hw3⟩:∃ w3,w3=w2.alloc (.cells #[] 3):=⟨_,rfl⟩
 rw[hz2] at hO
 rw[<- hw3] at hO hB1 c3 ⊢
 clear hw3
 go_loopw [5,6] (fun oo ii wr=>∃ i:Nat,i<=N/\ii=.int .i64 i/\zcu wr (w.heap.size+1) oo (zaI fs i x)/\wr.cell? ⟨w.heap.size,3,none⟩=some (.slice a N cap)/\Below w.heap.size w wr) (fun _ ii _=>N - (intOf ii).toNat)
 case atStart=>exact⟨0,Nat.zero_le _,rfl,hO,c3,hB1⟩
 case round =>
  rename World=>wo
  clear hO c3 hB1
  obtain⟨i,hi',rfl,hO,c3,hb⟩:=hrel
  have hzo:=hb.size
  by_cases hlt:i<N
  ·obtain⟨b,off,a',c',rfl,x0,hR⟩:=(h.below hb).at (k:=i) qc
   obtain⟨hr1,_⟩:=HS.out.2 i qc
   have hltI:(i:Int)<(N:Int):=qg
   have wk:IntKind.i64.wrap ((i:Int)+1)=(i:Int)+1:=IntWalk.i64_in _ qg
   have HT:Hid (zaI fs (i+1) x=if x∈fs.getD i [] then zaI fs i x++[(i:Int)] else zaI fs i x):=rfl
   have hlen:=zcq fs x i
   obtain⟨pre,epre⟩:∃ pre,zaI fs i x=pre:=⟨_,rfl⟩
   rw[epre] at hO HT hlen
   have hH:=zln a' c' (fs.getD i []) x wo hR qg
   obtain⟨xs,ex⟩:∃ xs,fs.getD i []=xs:=⟨_,rfl⟩
   rw[ex] at x0 hR HT hH
   obtain⟨m,em⟩:∃ m,xs.length=m:=⟨_,rfl⟩
   rw[em] at x0 hH
   obtain⟨bb,eb⟩:∃ bb,decide (x∈xs)=bb:=⟨_,rfl⟩
   rw[eb] at hH
   have HB:Hid (decide (x∈xs)=bb):=eb
   clear h ex em hR hr1 epre eb
   go_wp2_with fail
   refine hH.mono ?_
   rintro e wp ⟨rfl,hbp⟩
   replace hO:=(show zcu wp (w.heap.size+1) _ pre from zbW hO hbp)
   replace c3:=zad hbp c3
   replace hb:=zai hb hzo hbp
   have hzp:=hb.size
   have hgl:w.heap.size<wp.heap.size:=World.block_lt_of_cell? _ _ c3
   clear hbp hH
   rcases bb with _|_
   ·have HT2:Hid (zaI fs (i+1) x=pre):=by
     show _=_
     rw[HT.out,if_neg (of_decide_eq_false HB.out)]
    go_wp2_with fail
    go_roundw
    case rel=>exact⟨i+1,qg,by go_num,by rw[HT2.out];exact hO,c3,hb⟩
    case measure=>exact qe
   ·have HT2:Hid (zaI fs (i+1) x=pre++[(i:Int)]):=by
     show _=_
     rw[HT.out,if_pos (of_decide_eq_true HB.out)]
    go_wp2_with (at_builtin;refine wpList_append_lies _ rfl _ _ _ rfl (w.heap.size+1) 3 i0 (.int .i64 0) 1 8 SqP.underlying26 hi iz0 iz1 iz2 rfl qg _ pre.length (za3 pre) rfl (World.ownsRow.alloc hO _) ⟨wp.heap.size,0,none⟩ 1 1 [.int .i64 i] rfl rfl (World.news_of_block (cs:=#[.int .i64 i]) (t:=3) (fr:=(0,0)) (heap_alloc_new wp _)) qm qg qp qg ql (wp.heap.size+1) qk ?_)
    intro g6 k6 w6 hO6 hg6 hat6 hlt6
    have hbA:Below wp.heap.size wp (wp.alloc (.cells #[.int .i64 i] 3)):=(Below.refl _ _).alloc (Nat.le_refl _) _
    have hown:=fun k q=>(World.ownsRow.lt hO k q).1
    have hz6:=hg6.size
    simp at hz6
    have hb6:Below w.heap.size w w6:=by
     refine⟨(hg6.os.trans hbA.os).trans hb.os,(hg6.tape.trans hbA.tape).trans hb.tape,(hg6.output.trans hbA.output).trans hb.output,qg,fun k hk=>?_⟩
     rw[hg6.block k ql (fun q=>by have:=hown k q.symm;omega),hbA.block k qg]
     exact hb.block k hk
    have hkeep:w6.heap[w.heap.size]?=wp.heap[w.heap.size]?:=by
     rw[hg6.block _ ql (fun q=>by have:=hown _ q.symm;omega),hbA.block _ hgl]
    have q3:w6.cell? ⟨w.heap.size,3,none⟩=some (.slice (some ⟨b,off,none⟩) N cap):=by rw[World.cell?_of_block (w:=wp) hkeep];exact c3
    have hO7:zcu w6 (w.heap.size+1) (.slice (some ⟨g6,0,none⟩) (pre.length+1) k6) (pre++[(i:Int)]):=by
     unfold zcu
     rw[show (pre++[(i:Int)]).length=pre.length+1 by simp]
     have e:za3 (pre++[(i:Int)])=za3 pre++[.int .i64 i]:=by simp[za3]
     rw[e]
     exact hO6
    clear hO6 hg6 hat6 hb hO hbA hown c3 hkeep
    go_wp2_with fail
    go_roundw
    case rel=>exact⟨i+1,qg,by go_num,by rw[HT2.out];exact hO7,q3,hb6⟩
    case measure=>exact qe
  ·have hnl:¬ (i:Int)<(N:Int):=qg
   obtain rfl:i=N:=qg
   clear h
   go_wp2_with fail
   go_ret
   exact⟨_,rfl,zbD hO qg,hb⟩
end Sp
namespace Sp
def zoB(l:List Int):Nat->Nat
 | 0=>0
 | n+1=>zoB l n+if (n:Int)∈l then 1 else 0
theorem zmM{a:Int}(h:∀ b∈l,a<b)(n:Nat)(ha:0<=a):zoB (a::l) n=zoB l n+if a<n then 1 else 0:=by
 induction n with
 | zero=>simp[zoB];omega
 | succ n ih =>
  have hx:(n:Int)∈l->a<n:=fun q=>h _ q
  simp only[zoB,ih,List.mem_cons]
  by_cases q1:(n:Int)∈l
  ·have:=hx q1
   simp[q1,this]
   omega
  ·by_cases q2:(n:Int)=a
   ·have e1:¬ a<(n:Int):=qg
    have e2:a<((n+1:Nat):Int):=qg
    rw[if_pos (Or.inl q2),if_neg q1,if_neg e1,if_pos e2]
   ·have nq:¬ ((n:Int)=a\/(n:Int)∈l):=fun q=>q.elim q2 q1
    rw[if_neg nq,if_neg q1]
    by_cases q3:a<(n:Int)
    ·have e2:a<((n+1:Nat):Int):=qg
     rw[if_pos q3,if_pos e2]
    ·have e2:¬ a<((n+1:Nat):Int):=qg
     rw[if_neg q3,if_neg e2]
theorem zkd(n:Nat):∀ {l:List Int},l.Pairwise (· < ·)->(∀ a∈l,0<=a/\a<n)->zoB l n=l.length
 | [],_,_=>by
  have:∀ n,zoB [] n=0:=fun n=>by
   induction n with
   | zero=>rfl
   | succ n ih=>simp[zoB,ih]
  simpa using this n
 | a::l,hp,hb=>by
  obtain⟨h1,h2⟩:=List.pairwise_cons.1 hp
  have h3:=hb a mcs
  rw[zmM (fun b hb'=>h1 b hb') n h3.1,zkd n h2 (fun b q=>hb b (mcm q)),if_pos h3.2]
  rfl
def zhK(fs:List (List Int))(M:Nat):Nat->Nat
 | 0=>0
 | n+1=>zhK fs M n+(zaI fs M (n:Int)).length
def zdG(fs:List (List Int)):Nat->Nat
 | 0=>0
 | k+1=>zdG fs k+(fs.getD k []).length
theorem zmz(fs:List (List Int))(M n:Nat):zhK fs (M+1) n=zhK fs M n+zoB (fs.getD M []) n:=by
 induction n with
 | zero=>rfl
 | succ n ih =>
  simp only[zhK,zoB,ih,zaI]
  split
  ·simp;omega
  ·omega
theorem zkb(fs:List (List Int))(n:Nat):∀ M,(∀ k,k<M->(fs.getD k []).Pairwise (· < ·)/\∀ a∈fs.getD k [],0<=a/\a<n)->zhK fs M n=zdG fs M
 | 0,_=>by
  have:∀ n,zhK fs 0 n=0:=fun n=>by
   induction n with
   | zero=>rfl
   | succ n ih=>simp[zhK,ih,zaI]
  exact this n
 | M+1,h=>by
  have h1:=h M (Nat.lt_succ_self M)
  rw[zmz,zkb fs n M (fun k hk=>h k (Nat.lt_succ_of_lt hk)),zkd n h1.1 h1.2]
  rfl
theorem ziQ(fs:List (List Int))(x:Int):∀ M (k:Nat),k<M->((k:Int)∈zaI fs M x ↔ x∈fs.getD k [])
 | 0,k,h=>absurd h (Nat.not_lt_zero k)
 | M+1,k,h=>by
  have hlt:∀ M,∀ a∈zaI fs M x,a<(M:Int):=fun M=>by
   induction M with
   | zero=>intro a ha;simp[zaI] at ha
   | succ M ih =>
    intro a ha
    simp only[zaI] at ha
    split at ha
    ·rcases List.mem_append.1 ha with q|q
     ·have:=ih a q;omega
     ·have:a=(M:Int):=by simpa using q
      omega
    ·have:=ih a ha;omega
  by_cases e:k=M
  ·subst e
   have hn:(k:Int) ∉ zaI fs k x:=fun q=>by have:=hlt k _ q;omega
   simp only[zaI]
   by_cases q:x∈fs.getD k []
   ·rw[if_pos q];exact⟨fun _=>q,fun _=>List.mem_append_right _ qk⟩
   ·rw[if_neg q];exact⟨fun r=>absurd r hn,fun r=>absurd r q⟩
  ·have ih:=ziQ fs x M k qg
   simp only[zaI]
   by_cases q:x∈fs.getD M []
   ·rw[if_pos q,List.mem_append,ih]
    exact⟨fun r=>r.elim id fun r=>absurd (by simpa using r) (show ¬ (k:Int)=(M:Int) by omega),.inl⟩
   ·rw[if_neg q];exact ih
end Sp
namespace Sp
open Go.RowKit Go.Maps
attribute [local go_sem ↓] Go.wp_at_zero Go.wp_at_succ
def zbZ(wd:Int)(cs:List (Int × Int)):Nat:=(zbU wd cs).toNat
def zhn(wd:Int)(cs:List (Int × Int)):List Int:=(List.range (zbZ wd cs)).map fun (j:Nat)=>za0 wd cs (j:Int)
def zg8(wd:Int)(cs:List (Int × Int)):List (List Int):=(List.range (zbZ wd cs)).map fun (j:Nat)=>zar wd cs (j:Int)
theorem zjs(wd:Int)(cs:List (Int × Int)):(zhn wd cs).length=zbZ wd cs:=by simp[zhn]
theorem zdZ(wd:Int)(cs:List (Int × Int)):(zg8 wd cs).length=zbZ wd cs:=by simp[zg8]
theorem zg9{k:Nat}(h:k<zbZ wd cs):(zg8 wd cs).getD k []=zar wd cs (k:Int):=by simp[zg8,h]
theorem zh1(wd:Int)(cs:List (Int × Int))(k:Int):(zar wd cs k).Pairwise (· < ·):=by
 unfold zar zaF
 rw[List.pairwise_map]
 refine List.Pairwise.imp (R:=(· < ·)) (fun h=>qg) ?_
 exact List.Pairwise.sublist List.filter_sublist List.pairwise_lt_range
theorem zjg(wd:Int)(cs:List (Int × Int))(k:Int):(zar wd cs k).Nodup:=(zh1 wd cs k).imp fun h e=>by omega
theorem zko{k x:Int}(h:x∈zar wd cs k):0<=x/\x<(cs.length:Int):=by
 unfold zar zaF at h
 simp only[List.mem_map,List.mem_filter,List.mem_range] at h
 obtain⟨i,⟨h1,_⟩,rfl⟩:=h
 omega
theorem zit(h:okG wd cs=true):cs.length<=25/\0<cs.length/\zbZ wd cs<=20/\zbU wd cs=(zbZ wd cs:Int):=by
 obtain⟨W,H,S⟩:=zc3 h
 have hn:cs.length<=25:=by rw[S.el];exact Nat.le_trans (Nat.mul_le_mul S.hW.2 S.hH.2) qg
 have hp:0<cs.length:=by rw[S.el];exact Nat.mul_pos (by have:=S.hW;omega) (by have:=S.hH;omega)
 have e:=S.em
 have:=S.hW
 have:=S.hH
 have q:zbZ wd cs=2 * (W+H):=by unfold zbZ;omega
 exact⟨hn,hp,qg,qg⟩
theorem zfm(h:okG wd cs=true):ziX (zg8 wd cs):=by
 obtain⟨h1,h2,h3,h4⟩:=zit h
 refine⟨by rw[zdZ];omega,fun k hk=>?_⟩
 rw[zdZ] at hk
 rw[zg9 hk]
 refine⟨Nat.le_trans (zdH _ _) qg,fun j hj=>?_⟩
 have hm:(zar wd cs (k:Int)).getD j 0∈zar wd cs (k:Int):=by
  simp only[List.getD,List.getElem?_eq_getElem hj,Option.getD_some]
  exact List.getElem_mem hj
 have:=zko hm
 omega
def zkM(wd:Int)(cs:List (Int × Int))(ls:List Int)(fs:List (List Int)):Bool:=okG wd cs && decide (ls=zhn wd cs) && decide (fs=zg8 wd cs)
theorem zhv(h:zkM wd cs ls fs=true):okG wd cs=true/\ls=zhn wd cs/\fs=zg8 wd cs:=by
 unfold zkM at h
 simp only[Bool.and_eq_true,decide_eq_true_eq] at h
 exact⟨h.1.1,h.1.2,h.2⟩
theorem zlI(l:List Int):(List.range l.length).map (fun i=>l.getD i 0)=l:=by
 refine List.ext_getElem qk fun i h1 h2=>?_
 simp[List.getD,h2]
theorem zhw(wd:Int)(cs:List (Int × Int))(ls:List Int)(fs:List (List Int))(hS:zhP cs ls fs) :
  (∀(g l f:Option Addr) (gc lc fc:Nat) (w:World),ScM w g l f cs ls fs->Calls SqP.prog 14 #[.agg #[.int .i64 wd,.slice g cs.length gc,.slice l ls.length lc,.slice f fs.length fc]] w fun e w'=>e=.returned (.bool (zkM wd cs ls fs))/\Below w.heap.size w w') /\
  (∀(g l f:Option Addr) (gc lc fc:Nat) (w:World),ScM w g l f cs ls fs->Calls SqP.prog 8 #[.agg #[.int .i64 wd,.slice g cs.length gc,.slice l ls.length lc,.slice f fs.length fc]] w fun e w'=>e=.returned (.bool (zkM wd cs ls fs))/\Below w.heap.size w w'):=by
 rcases hk:okG wd cs with _|_
 ·have e:zkM wd cs ls fs=(false && decide (ls=(List.range 0).map fun _=>(0:Int)) && decide (fs=(List.range 0).map fun (k:Nat)=>(List.range ((fun (_:Nat)=>0) k)).map ((fun (_ _:Nat)=>(0:Int)) k))):=by simp[zkM,hk]
  rw[e]
  exact⟨fun g l' f' gc lc fc w h=>zcU wd g l' f' gc lc fc cs ls fs w h.1 h.2.1 h.2.2 hS qk qk qg (fun k hk=>by simp at hk) (fun a cap w h=>(zkL wd a cap cs w h (by have:=hS.1;omega) hk).mono fun e w' q=>zg2 (zqt q.1 q.2)),
   fun g l' f' gc lc fc w h=>zc6 wd g l' f' gc lc fc cs ls fs w h.1 h.2.1 h.2.2 hS qk qk qg (fun k hk=>by simp at hk) (fun a cap w h=>(zc5 wd a cap cs w h hS.1 hk).mono fun e w' q=>zg2 (zqt q.1 q.2))⟩
 ·obtain⟨W,H,S⟩:=zc3 hk
  obtain⟨hn,hp,hM20,hMG⟩:=zit hk
  have hM:2 * (W+H)=zbZ wd cs:=by have:=S.em;unfold zbZ;omega
  have e:zkM wd cs ls fs=(true && decide (ls=(List.range (zbZ wd cs)).map fun (j:Nat)=>za0 wd cs (j:Int)) && decide (fs=(List.range (zbZ wd cs)).map fun (k:Nat)=>(List.range (zar wd cs (k:Int)).length).map ((fun (j i:Nat)=>(zar wd cs (j:Int)).getD i 0) k))):=by
   have q:((List.range (zbZ wd cs)).map fun (k:Nat)=>(List.range (zar wd cs (k:Int)).length).map ((fun (j i:Nat)=>(zar wd cs (j:Int)).getD i 0) k))=zg8 wd cs:=by
    unfold zg8
    refine List.map_congr_left fun k _=>zlI _
   rw[q]
   unfold zkM
   rw[hk]
   rfl
  have hx:∀ k,k<((List.range (zbZ wd cs)).map fun (k:Nat)=>(List.range (zar wd cs (k:Int)).length).map ((fun (j i:Nat)=>(zar wd cs (j:Int)).getD i 0) k)).length->(((List.range (zbZ wd cs)).map fun (k:Nat)=>(List.range (zar wd cs (k:Int)).length).map ((fun (j i:Nat)=>(zar wd cs (j:Int)).getD i 0) k)).getD k []).length<=1048576:=fun k hk=>by
   have hk':k<zbZ wd cs:=by simpa using hk
   have:(zar wd cs (k:Int)).length<=cs.length:=zdH _ _
   simp[hk']
   omega
  rw[e]
  exact⟨fun g l' f' gc lc fc w h=>zcU wd g l' f' gc lc fc cs ls fs w h.1 h.2.1 h.2.2 hS qk qk hM20 hx (fun a cap w h=>(znU wd a cap cs w h hn hp hk (zbZ wd cs) (by rw[hMG]) hM20).mono fun e w' ⟨gc,bl,bf,arrL,arrF,xs,q1,q2⟩=>zg2 (zmA q2.toS q1)),
   fun g l' f' gc lc fc w h=>zc6 wd g l' f' gc lc fc cs ls fs w h.1 h.2.1 h.2.2 hS qk qk hM20 hx (fun a cap w h=>(zcI S a cap w h).mono fun e w' ⟨gc,c,bl,bf,arrL,arrF,xs,q1,q2⟩=>zg2 (zmA (by rw[<- hM];exact q2) (by rw[<- hM];exact q1)))⟩
def zbE(wd:Int)(cs:List (Int × Int))(ls:List Int)(fs:List (List Int))(x:Int):List Int:=if zkM wd cs ls fs=true then zaI fs fs.length x else []
theorem zpB(w:World)(B:Nat):zcu w B (.slice none 0 0) []:=World.ownsRow_nil _ _ _ _
theorem zhy(wd x:Int)(g l f:Option Addr)(gc lc fc:Nat)(cs:List (Int × Int))(ls:List Int)(fs:List (List Int))(w:World)(hM:ScM w g l f cs ls fs)(hS:zhP cs ls fs) :
  Calls SqP.prog 7 #[.agg #[.int .i64 wd,.slice g cs.length gc,.slice l ls.length lc,.slice f fs.length fc],.int .i64 x] w fun e w'=>∃ v,e=.returned v/\zcu w' w.heap.size v (zbE wd cs ls fs x)/\Below w.heap.size w w':=by
 obtain⟨w2,hw2⟩:∃ w2,w2=w.alloc (.cells #[.int .i64 wd,.slice g cs.length gc,.slice l ls.length lc,.slice f fs.length fc] 29):=⟨_,rfl⟩
 obtain⟨x1,hb2⟩:=zbV (.cells #[.int .i64 wd,.slice g cs.length gc,.slice l ls.length lc,.slice f fs.length fc] 29) w
 rw[<- hw2] at x1 hb2
 have hC:=(zhw wd cs ls fs hS).2 g l f gc lc fc w2 (hM.below hb2)
 obtain⟨b,eb⟩:∃ b,zkM wd cs ls fs=b:=⟨_,rfl⟩
 rw[eb] at hC
 obtain⟨c0,c1,c2,c3⟩:=zaw x1
 have HF:Hid (zgj w f fs):=hM.2.2
 have ET:Hid (zbE wd cs ls fs x=if b=true then zaI fs fs.length x else []):=by show _=_;unfold zbE;rw[eb]
 have HY:Hid (b=true->ziX fs):=fun q=>by
  obtain⟨q1,_,q3⟩:=zhv (eb.trans q)
  rw[q3]
  exact zfm q1
 clear hM hS x1 eb
 go_enter (zfx func7),ntmps7
 go_upto_region 1 with fail
 rw[<- hw2]
 clear hw2
 go_wp2_with fail
 refine hC.mono ?_
 rintro e w3 ⟨rfl,hb3⟩
 have hB:=zai hb2 hb2.size hb3
 replace c0:=zad hb3 c0;replace c1:=zad hb3 c1;replace c2:=zad hb3 c2;replace c3:=zad hb3 c3
 clear hb3 hC hb2
 rcases b with _|_
 ·go_wp2_with fail
  go_ret
  exact⟨_,rfl,by rw[ET.out];exact⟨rfl,Or.inr ⟨w3.heap.size,0,#[],rfl,hB.size,heap_alloc_new w3 _,Nat.le_refl _,qp,rfl,rfl⟩⟩,zai hB hB.size ((Below.refl _ _).alloc (Nat.le_refl _) _)⟩
 ·have hT:=zie wd x g l f gc lc fc cs.length ls.length fs w3 (HF.out.below hB) (HY.out rfl)
  go_wp2_with fail
  refine hT.mono ?_
  rintro e w4 ⟨v,rfl,hO,hb4⟩
  have hB4:=zai hB hB.size hb4
  clear c0 c1 c2 c3 hb4 hT
  go_wp2_with fail
  go_ret
  exact⟨_,rfl,by rw[ET.out];exact zbD hO hB.size,hB4⟩
theorem zhk(wd x:Int)(hx:-9223372036854775808<=x/\x<=9223372036854775807)(g l f:Option Addr)(gc lc fc:Nat)(cs:List (Int × Int))(ls:List Int)(fs:List (List Int))(w:World)(hM:ScM w g l f cs ls fs)(hS:zhP cs ls fs) :
  Calls SqP.prog 5 #[.agg #[.int .i64 wd,.slice g cs.length gc,.slice l ls.length lc,.slice f fs.length fc],.int .i64 x] w fun e w'=>∃ v,e=.returned v/\zcu w' w.heap.size v (zbE wd cs ls fs x)/\Below w.heap.size w w':=by
 obtain⟨w2,hw2⟩:∃ w2,w2=w.alloc (.cells #[.int .i64 wd,.slice g cs.length gc,.slice l ls.length lc,.slice f fs.length fc] 29):=⟨_,rfl⟩
 obtain⟨x1,hb2⟩:=zbV (.cells #[.int .i64 wd,.slice g cs.length gc,.slice l ls.length lc,.slice f fs.length fc] 29) w
 rw[<- hw2] at x1 hb2
 have hC:=(zhw wd cs ls fs hS).1 g l f gc lc fc w2 (hM.below hb2)
 obtain⟨b,eb⟩:∃ b,zkM wd cs ls fs=b:=⟨_,rfl⟩
 rw[eb] at hC
 obtain⟨c0,c1,c2,c3⟩:=zaw x1
 have HF:Hid (zgj w f fs):=hM.2.2
 have ET:Hid (zbE wd cs ls fs x=if b=true then zaI fs fs.length x else []):=by show _=_;unfold zbE;rw[eb]
 have HY:Hid (b=true->ziX fs/\tch fs fs.length x=zaI fs fs.length x):=fun q=>by
  obtain⟨q1,_,q3⟩:=zhv (eb.trans q)
  refine⟨by rw[q3];exact zfm q1,zgR fs x fs.length fun j hj=>?_⟩
  rw[q3] at hj ⊢
  rw[zdZ] at hj
  rw[zg9 hj]
  exact zjg _ _ _
 clear hM hS x1 eb
 go_enter (zfx func5),ntmps5
 go_upto_region 1 with fail
 rw[<- hw2]
 clear hw2
 go_wp2_with fail
 refine hC.mono ?_
 rintro e w3 ⟨rfl,hb3⟩
 have hB:=zai hb2 hb2.size hb3
 replace c0:=zad hb3 c0;replace c1:=zad hb3 c1;replace c2:=zad hb3 c2;replace c3:=zad hb3 c3
 clear hb3 hC hb2
 rcases b with _|_
 ·go_wp2_with fail
  go_ret
  exact⟨_,rfl,by rw[ET.out];exact zpB _ _,hB⟩
 ·obtain⟨y1,y2⟩:=HY.out rfl
  have hn20:=y1.1
  have hT:=zjL f fc fs w3 (HF.out.below hB) y1
  have hkey:keyOf SqP.prog 3 (.int .i64 x)=some (.int .i64 x):=keyOf_int_mk SqP.underlying3 (WalkArith.wf_i64 hx)
  have HY2:Hid (tch fs fs.length x=zaI fs fs.length x):=y2
  clear y1 y2
  go_wp2_with fail
  refine hT.mono ?_
  rintro e w4 ⟨n,rfl,hn,⟨D,hown,hD⟩,hb4⟩
  have hB4:=zai hB hB.size hb4
  have hz3:=hB.size
  clear c0 c1 c2 c3 hb4 hT
  go_wp2_with (first
   | (at_lookup;refine wpList_lookup_groups _ rfl _ _ 42 rfl 3 26 3 .i64 zqy SqP.underlying42 (zk2 _) (w3.heap.size+1) w3.heap.size n D rfl hown qp _ _ rfl hkey ?_;intro u zs hat hoi hzl hback)
   | fail)
  go_ret
  have e:=(hD x).zs hat hoi
  subst e
  refine⟨_,rfl,?_,hB4⟩
  rw[ET.out,if_pos trivial,<- HY2.out]
  exact zbD hoi.1 qg
