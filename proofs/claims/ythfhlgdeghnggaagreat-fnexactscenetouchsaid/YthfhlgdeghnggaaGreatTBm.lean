/- Part. -/
import Derived.Maps.OwnRows
import Derived.Maps.Views
import Derived.WalkSpells
import Derived.Test.YthfhlgdeghnggaaGreatTBl
set_option maxHeartbeats 2000000
set_option linter.unusedVariables false
namespace Go.Proofs.YthfhlgdeghnggaaGreat
variable{wd:Int}{F:Int->List Int}{cs:List (Int × Int)}{fs:List (List Int)}{ls:List Int}{base:Nat}{w:World}
namespace Sp
open Go.RowKit Go.Maps Go.ChangeShapes
attribute [local go_sem ↓] Go.wp_at_zero Go.wp_at_succ
def zjb(row:List Int)(x:Int)(k:Nat):List Int:=(row.filter fun y=>y == x).map fun _=>(k:Int)
def tch(fs:List (List Int)):Nat->Int->List Int
 | 0,_=>[]
 | k+1,x=>tch fs k x++zjb (fs.getD k []) x k
def zcJ(fs:List (List Int))(k j:Nat)(x:Int):List Int:=tch fs k x++zjb ((fs.getD k []).take j) x k
theorem zmG(fs:List (List Int))(k:Nat):zcJ fs k 0=tch fs k:=by funext x;simp[zcJ,zjb]
theorem zoQ(fs:List (List Int))(k:Nat):zcJ fs k (fs.getD k []).length=tch fs (k+1):=by funext x;simp[zcJ,tch]
theorem zoP(l:List Int)(j:Nat)(hj:j<l.length):l.take (j+1)=l.take j++[l.getD j 0]:=by
 rw[List.take_add_one,List.getElem?_eq_getElem hj]
 simp[List.getD,hj]
theorem zmF(fs:List (List Int))(k j:Nat)(hj:j<(fs.getD k []).length)(x:Int):zcJ fs k (j+1) x=if x=(fs.getD k []).getD j 0 then zcJ fs k j x++[(k:Int)] else zcJ fs k j x:=by
 unfold zcJ zjb
 rw[zoP _ _ hj,List.filter_append,List.map_append]
 generalize (fs.getD k []).getD j 0=v
 generalize (fs.getD k []).take j=l
 by_cases q:x=v
 ·rw[if_pos q,<- q]
  simp
 ·rw[if_neg q]
  have:¬ v=x:=fun e=>q e.symm
  simp[this]
theorem zpV{a b:List Int}(h:(lits .i64 a:List (DataW Unit))=lits .i64 b):a=b:=by
 refine(List.map_inj_right (f:=fun n=>(DataW.lit (.int .i64 n):DataW Unit)) fun x y e=>?_).1 h
 cases e
 rfl
def zgE(D:DataW Unit)(x:Int)(l:List Int):Prop:=(D.atKey (.int .i64 x) .nil=.nil/\l=[])\/D.atKey (.int .i64 x) .nil=.slice (lits .i64 l) []
theorem zgE.zs{D:DataW Unit}{x:Int}{l:List Int}(h:zgE D x l){w:World}{base:Nat}{e:TypeId}{v:Value}{zs:List Int}(hat:D.atKey (.int .i64 x) .nil=rowDatum .i64 v zs)(ho:w.ownsInts base e .i64 v zs):zs=l:=by
 rcases ho.datum (H:=Unit) with ⟨h1,h2⟩|h1
 ·rcases h with ⟨_,h3⟩|h3
  ·rw[h2,h3]
  ·rw[hat,h1] at h3;cases h3
 ·rcases h with ⟨h2,_⟩|h3
  ·rw[hat,h1] at h2;cases h2
  ·rw[hat,h1] at h3
   exact zpV (DataW.slice.inj h3).1
def zhg(w:World)(B n:Nat)(F:Int->List Int):Prop:=∃ D:DataW Unit,w.ownsGroups SqP.prog 3 (B+1) 3 .i64 B n D/\∀ x:Int,zgE D x (F x)
theorem zmf(w:World):zhg (w.alloc (.map #[] 0)) w.heap.size 0 fun _=>[]:=⟨.map [],World.ownsGroups_made _ _ _ _ _,fun x=>.inl ⟨rfl,rfl⟩⟩
theorem zme{D:DataW Unit}(hD:IsMap D)(h:∀ x:Int,zgE D x (F x))(x0:Int)(l:List Int)(hl:l≠[]){e:TypeId}{v:Value}(ho:w.ownsInts base e .i64 v l):∀ x:Int,zgE (D.put (.int .i64 x0) (rowDatum .i64 v l)) x (if x=x0 then l else F x):=by
 intro x
 unfold zgE
 by_cases q:x=x0
 ·subst q
  rw[if_pos rfl,atKey_put_same hD (by trivial),ho.datum_pos hl]
  exact .inr rfl
 ·rw[if_neg q,atKey_put_other (fun e=>q (by cases e;rfl))]
  exact h x
theorem zlo(w:World):(zeroValue 25).run SqP.prog w=.ok (.slice none 0 0) w:=by kernel_rfl
theorem zpN:(SqP.prog.info? 3).map (fun i=>(i.zero,i.size,i.bytes))=some (some (.int .i64 0),1,8):=by kernel_rfl
theorem zq1:Keyed SqP.prog 3:=int_keyed SqP.underlying3
theorem zin{B n:Nat}{D:DataW Unit}(h:w.ownsGroups SqP.prog 3 base 3 .i64 B n D):IsMap D:=by
 obtain⟨_,_,_,_,_,e,_⟩:=h
 exact⟨_,e⟩
theorem zhg.lt{B n:Nat}(h:zhg w B n F):B<w.heap.size:=by
 obtain⟨_,⟨_,_,h,_⟩,_⟩:=h
 exact(gei h).1
def zjm(fs:List (List Int)):Prop:=fs.length<=1000/\∀ k,k<fs.length->(fs.getD k []).length<=1000/\∀ j,j<(fs.getD k []).length->0<=(fs.getD k []).getD j 0/\(fs.getD k []).getD j 0<=1000
set_option maxRecDepth 100000 in
theorem zka(a:Option Addr)(cap:Nat)(fs:List (List Int))(w:World)(h:zde w a fs)(hs:zjm fs) :
  Calls SqP.prog 34 #[.slice a fs.length cap] w fun e w'=>∃ n,e=.returned (.map (some w.heap.size))/\n<=fs.length * 1000/\zhg w' w.heap.size n (tch fs fs.length)/\Below w.heap.size w w':=by
 have hmm:=@run_makeMap SqP.prog
 obtain⟨i0,hi,hz0,hz1,hz2⟩:=info_parts zpN
 obtain⟨N,hN⟩:∃ N,fs.length=N:=⟨_,rfl⟩
 have HN:Hid (fs.length=N):=hN
 have HS:Hid (zjm fs):=hs
 have hm:=hs.1
 rw[hN] at hm ⊢
 clear hN hs
 go_enter SqP.func34,Tryz.ntmps34
 go_wp2_with fail
 go_loopw [11] (fun i wr=>∃ k n:Nat,k<=N/\i=.int .i64 k/\n<=k * 1000/\zhg wr w.heap.size n (tch fs k)/\Below w.heap.size w wr) (fun i _=>N - (intOf i).toNat)
 case atStart=>exact⟨0,0,Nat.zero_le _,rfl,by omega,zmf w,bel⟩
 case round =>
  rename World=>wo
  obtain⟨k,n,hk,rfl,hn,hS,hb⟩:=hrel
  by_cases hlt:k<N
  ·obtain⟨b,off,a',c',rfl,x0,hR⟩:=h.at (k:=k) (by have:=HN.out;omega)
   replace x0:=zab hb x0
   obtain⟨hr1,hr2⟩:=HS.out.2 k (by have:=HN.out;omega)
   have hltI:(k:Int)<(N:Int):=by omega
   have wk:IntKind.i64.wrap ((k:Int)+1)=(k:Int)+1:=IntWalk.i64_in _ (by omega)
   have HT:Hid (∀ j,j<(fs.getD k []).length->∀ x,zcJ fs k (j+1) x=if x=(fs.getD k []).getD j 0 then zcJ fs k j x++[(k:Int)] else zcJ fs k j x):=fun j hj x=>zmF fs k j hj x
   have HZ:Hid (zcJ fs k 0=tch fs k/\zcJ fs k (fs.getD k []).length=tch fs (k+1)):=⟨zmG fs k,zoQ fs k⟩
   obtain⟨xs,ex⟩:∃ xs,fs.getD k []=xs:=⟨_,rfl⟩
   rw[ex] at x0 hR hr1 hr2 HT HZ
   obtain⟨m,em⟩:∃ m,xs.length=m:=⟨_,rfl⟩
   have HM:Hid (xs.length=m):=em
   rw[em] at x0 hr1 hr2 HT HZ
   have hS0:zhg wo w.heap.size n (zcJ fs k 0):=by rw[HZ.out.1];exact hS
   have HR:Hid (zcP w a' xs):=hR
   clear h ex em hS hR
   go_wp2_with fail
   go_loopw [18] (fun i wr=>∃ j n2:Nat,j<=m/\i=.int .i64 j/\n2<=n+j/\zhg wr w.heap.size n2 (zcJ fs k j)/\Below w.heap.size w wr) (fun i _=>m - (intOf i).toNat)
   case atStart=>exact⟨0,n,Nat.zero_le _,rfl,by omega,hS0,hb⟩
   case round =>
    rename World=>wi
    obtain⟨j,n2,hj,rfl,hn2,⟨D,hown,hD⟩,hb2⟩:=hrel
    by_cases hlt2:j<m
    ·obtain⟨g,o,rfl,_,y0⟩:=(HR.out.below hb2).at (i:=j) (by have:=HM.out;omega)
     have hv:=hr2 j hlt2
     obtain⟨v,ev⟩:∃ v,xs.getD j 0=v:=⟨_,rfl⟩
     have HT2:Hid (∀ x,zcJ fs k (j+1) x=if x=v then zcJ fs k j x++[(k:Int)] else zcJ fs k j x):=fun x=>by rw[HT.out j hlt2 x,ev]
     rw[ev] at y0 hv
     have hltJ:(j:Int)<(m:Int):=by omega
     have wj:IntKind.i64.wrap ((j:Int)+1)=(j:Int)+1:=IntWalk.i64_in _ (by omega)
     have hkey:keyOf SqP.prog 3 (.int .i64 v)=some (.int .i64 v):=keyOf_int_mk SqP.underlying3 (WalkArith.wf_i64 (by omega))
     clear HT hr2 ev
     go_wp2_with (first
      | (at_lookup;refine wpList_lookup_groups _ rfl _ _ 67 rfl 3 25 3 .i64 zq1 SqP.underlying67 (zlo _) (w.heap.size+1) w.heap.size n2 D rfl hown (by unfold maxLen;omega) _ _ rfl hkey ?_;intro u zs hat hoi hzl hback)
      | (at_builtin;refine wpList_append_own_at _ rfl _ _ 25 rfl (w.heap.size+1) 3 i0 (.int .i64 0) 1 8 SqP.underlying25 hi hz0 hz1 hz2 rfl (by decide) _ _ _ rfl (hoi.1.alloc _) ⟨wi.heap.size,0,none⟩ 1 1 [.int .i64 k] rfl rfl (cell_one_new _ _ _) (ints_oneCell .i64 [(k:Int)]) (by unfold maxLen;omega) (by omega) (by simp;have:=hb2.size;omega) ?_;intro v' w1 hown' hgrow hnil hloc)
      | (at_mapUpdate;refine wpList_mapUpdate_back _ rfl _ _ _ 67 rfl hback rfl rfl rfl ((World.grownBy_alloc _ _ _).trans hgrow) (hoi.appended hown' (WalkArith.wf_i64 (by omega))) (by simp;omega) (hloc.imp id (fun h=>⟨_,h,by simp⟩)) ?_;intro w2 hown2 hgrow2)
      | fail)
     have hall:=(World.grownBy_alloc wi _ _).trans hgrow
     have ezs:=(hD v).zs hat hoi
     have hput:=zme (zin hown) hD v (zs++[(k:Int)]) (by simp) (hoi.appended hown' (WalkArith.wf_i64 (by omega)))
     have hS2:zhg w2 w.heap.size (n2+1) (zcJ fs k (j+1)):=⟨_,hown2,fun x=>by
      have q:=hput x
      rw[HT2.out x]
      by_cases e:x=v
      ·rw[if_pos e] at q ⊢
       rw[e,<- ezs]
       rw[e] at q
       exact q
      ·rw[if_neg e] at q ⊢
       exact q⟩
     have hb3:=hb2.groups hoi hall hgrow2 hb2.size (Nat.le_succ _) (Nat.le_refl _)
     clear hown hD hput hown2 hoi hat hback hall hgrow hgrow2 hown' hloc hnil
     go_wp2_with fail
     go_roundw
     case rel=>exact⟨j+1,n2+1,by omega,by go_num,by omega,hS2,hb3⟩
     case measure=>simp[intOf];omega
    ·have hnl:¬ (j:Int)<(m:Int):=by omega
     obtain rfl:j=m:=by omega
     have hS2:zhg wi w.heap.size n2 (tch fs (k+1)):=by rw[<- HZ.out.2];exact⟨D,hown,hD⟩
     clear hown hD
     go_wp2_with fail
     go_roundw
     case rel=>exact⟨k+1,n2,by omega,by go_num,by omega,hS2,hb2⟩
     case measure=>simp[intOf];omega
  ·have hnl:¬ (k:Int)<(N:Int):=by omega
   obtain rfl:k=N:=by omega
   clear h
   go_wp2_with fail
   go_ret
   exact⟨rfl,n,hn,hS,hb⟩
end Sp
namespace Sp
open Go.RowKit
attribute [local go_sem ↓] Go.wp_at_zero Go.wp_at_succ
theorem zlK(a:Option Addr)(cap:Nat)(xs:List Int)(x:Int)(w:World)(h:zcP w a xs)(hm:xs.length<=1048576) :
  Calls SqP.prog 52 #[.slice a xs.length cap,.int .i64 x] w fun e w'=>e=.returned (.bool (decide (x∈xs)))/\Below w.heap.size w w':=by
 obtain⟨N,hN⟩:∃ N,xs.length=N:=⟨_,rfl⟩
 have HN:Hid (xs.length=N):=hN
 rw[hN] at hm ⊢
 clear hN
 go_enter SqP.func52,Tryz.ntmps52
 go_wp2_with fail
 go_loopw [5] (fun ii wr=>∃ i:Nat,i<=N/\ii=.int .i64 i/\(∀ j,j<i->¬ xs.getD j 0=x)/\Below w.heap.size w wr) (fun ii _=>N - (intOf ii).toNat)
 case atStart=>exact⟨0,Nat.zero_le _,rfl,fun j h=>by omega,Below.refl _ _⟩
 case round =>
  rename World=>wo
  obtain⟨i,hi,rfl,hne,hb⟩:=hrel
  have HNE:Hid (∀ j,j<i->¬ xs.getD j 0=x):=hne
  clear hne
  by_cases hlt:i<N
  ·obtain⟨g,o,rfl,_,x0⟩:=(h.below hb).at (i:=i) (by have:=HN.out;omega)
   have hltI:(i:Int)<(N:Int):=by omega
   have wk:IntKind.i64.wrap ((i:Int)+1)=(i:Int)+1:=IntWalk.i64_in _ (by omega)
   obtain⟨v,ev⟩:∃ v,xs.getD i 0=v:=⟨_,rfl⟩
   have HV:Hid (xs.getD i 0=v):=ev
   rw[ev] at x0
   clear h ev
   by_cases hv:v=x
   ·have bl:(v == x)=true:=by simp[hv]
    have HX:Hid (x∈xs):=by
     have hi2:i<xs.length:=by have:=HN.out;omega
     have e2:xs[i]=x:=by
      have q:=HV.out
      simp only[List.getD,List.getElem?_eq_getElem hi2,Option.getD_some] at q
      rw[q,hv]
     exact e2 ▸ List.getElem_mem hi2
    have HVX:Hid (v=x):=hv
    clear hv
    go_wp2_with fail
    go_ret
    exact⟨by simp[HX.out],hb⟩
   ·have bl:(v == x)=false:=by simp[hv]
    have HVX:Hid (¬ v=x):=hv
    clear hv
    go_wp2_with fail
    go_roundw
    case rel =>
     refine⟨i+1,by omega,by go_num,fun j hj=>?_,hb⟩
     rcases Nat.lt_succ_iff_lt_or_eq.1 hj with q|rfl
     ·exact HNE.out j q
     ·rw[HV.out];exact HVX.out
    case measure=>simp[intOf];omega
  ·have hnl:¬ (i:Int)<(N:Int):=by omega
   have HX:Hid (¬ x∈xs):=fun hx=>by
    obtain⟨j,hj,e⟩:=List.getElem_of_mem hx
    refine HNE.out j (by have:=HN.out;omega) ?_
    simp[List.getD,hj,e]
   clear h
   go_wp2_with fail
   go_ret
   exact⟨by simp[HX.out],hb⟩
def zbv(fs:List (List Int)):Nat->Int->List Int
 | 0,_=>[]
 | k+1,x=>if x∈fs.getD k [] then zbv fs k x++[(k:Int)] else zbv fs k x
theorem zeJ(fs:List (List Int))(x:Int):∀ k,(zbv fs k x).length<=k
 | 0=>Nat.le_refl _
 | k+1=>by
  have:=zeJ fs x k
  unfold zbv
  split
  ·simp;omega
  ·omega
theorem zg6(fs:List (List Int))(x:Int):∀ k,(∀ j,j<k->(fs.getD j []).Nodup)->tch fs k x=zbv fs k x
 | 0,_=>rfl
 | k+1,h=>by
  have ih:=zg6 fs x k (fun j hj=>h j (by omega))
  have hn:=h k (by omega)
  unfold tch zbv zjb
  rw[ih]
  have key:∀ l:List Int,l.Nodup->(l.filter fun y=>y == x).map (fun _=>(k:Int))=if x∈l then [(k:Int)] else []:=by
   intro l
   induction l with
   | nil=>intro _;rfl
   | cons y l ih =>
    intro hl
    obtain⟨h1,h2⟩:=List.nodup_cons.1 hl
    by_cases q:y=x
    ·subst q
     have:l.filter (fun z=>z == y)=[]:=List.filter_eq_nil_iff.2 fun z hz e=>h1 (by rw[<- (by simpa using e:z=y)];exact hz)
     simp[this]
    ·have q':¬ x=y:=fun e=>q e.symm
     have e2:=ih h2
     simp only[List.filter_cons,List.mem_cons,q',false_or]
     rw[if_neg (by simpa using q)]
     exact e2
  rw[key _ hn]
  split
  ·rfl
  ·simp
theorem znL:(SqP.prog.info? 3).map (fun i=>(i.zero,i.size,i.bytes))=some (some (.int .i64 0),1,8):=by kernel_rfl
theorem ziy(wd x:Int)(g l a:Option Addr)(gc lc cap n p:Nat)(fs:List (List Int))(w:World)(h:zde w a fs)(hs:zjm fs) :
  Calls SqP.prog 29 #[.agg #[.int .i64 wd,.slice g n gc,.slice l p lc,.slice a fs.length cap],.int .i64 x] w fun e w'=>∃ v,e=.returned v/\zb7 w' w.heap.size v (zbv fs fs.length x)/\Below w.heap.size w w':=by
 obtain⟨i0,hi,iz0,iz1,iz2⟩:=info_parts znL
 obtain⟨w2,hw2⟩:∃ w2,w2=w.alloc (.cells #[.int .i64 wd,.slice g n gc,.slice l p lc,.slice a fs.length cap] 35):=⟨_,rfl⟩
 obtain⟨x1,hb2⟩:=zbr (.cells #[.int .i64 wd,.slice g n gc,.slice l p lc,.slice a fs.length cap] 35) w
 rw[<- hw2] at x1 hb2
 have hz2:w2.heap.size=w.heap.size+1:=by rw[hw2];simp
 have hbE:Below w2.heap.size w2 (w2.alloc (.cells #[] 3)):=(Below.refl _ _).alloc (Nat.le_refl _) _
 have hO:zb7 (w2.alloc (.cells #[] 3)) (w.heap.size+1) (.slice (some ⟨w2.heap.size,0,none⟩) 0 0) [] :=
  ⟨rfl,Or.inr ⟨w2.heap.size,0,#[],rfl,by omega,heap_alloc_new w2 _,Nat.le_refl _,by unfold maxLen;omega,rfl,rfl⟩⟩
 have hB1:=zaj hb2 hb2.size hbE
 obtain⟨N,hN⟩:∃ N,fs.length=N:=⟨_,rfl⟩
 have HN:Hid (fs.length=N):=hN
 have HS:Hid (zjm fs):=hs
 have hm:=hs.1
 rw[hN] at hm x1 hw2 ⊢
 have c3:=zab hbE (zcm x1).2.2.2
 clear hN hs x1 hbE hb2
 go_enter SqP.func29,Tryz.ntmps29
 go_upto_region 1 with fail
 rw[<- hw2]
 clear hw2
 go_wp2_with fail
 obtain⟨w3,hw3⟩:∃ w3,w3=w2.alloc (.cells #[] 3):=⟨_,rfl⟩
 rw[hz2] at hO
 rw[<- hw3] at hO hB1 c3 ⊢
 clear hw3
 go_loopw [5,6] (fun oo ii wr=>∃ i:Nat,i<=N/\ii=.int .i64 i/\zb7 wr (w.heap.size+1) oo (zbv fs i x)/\wr.cell? ⟨w.heap.size,3,none⟩=some (.slice a N cap)/\Below w.heap.size w wr) (fun _ ii _=>N - (intOf ii).toNat)
 case atStart=>exact⟨0,Nat.zero_le _,rfl,hO,c3,hB1⟩
 case round =>
  rename World=>wo
  clear hO c3 hB1
  obtain⟨i,hi',rfl,hO,c3,hb⟩:=hrel
  have hzo:=hb.size
  by_cases hlt:i<N
  ·obtain⟨b,off,a',c',rfl,x0,hR⟩:=(h.below hb).at (k:=i) (by have:=HN.out;omega)
   obtain⟨hr1,_⟩:=HS.out.2 i (by have:=HN.out;omega)
   have hltI:(i:Int)<(N:Int):=by omega
   have wk:IntKind.i64.wrap ((i:Int)+1)=(i:Int)+1:=IntWalk.i64_in _ (by omega)
   have HT:Hid (zbv fs (i+1) x=if x∈fs.getD i [] then zbv fs i x++[(i:Int)] else zbv fs i x):=rfl
   have hlen:=zeJ fs x i
   obtain⟨pre,epre⟩:∃ pre,zbv fs i x=pre:=⟨_,rfl⟩
   rw[epre] at hO HT hlen
   have hH:=zlK a' c' (fs.getD i []) x wo hR (by omega)
   obtain⟨xs,ex⟩:∃ xs,fs.getD i []=xs:=⟨_,rfl⟩
   rw[ex] at x0 hR HT hH
   obtain⟨m,em⟩:∃ m,xs.length=m:=⟨_,rfl⟩
   rw[em] at x0 hH
   obtain⟨bb,eb⟩:∃ bb,decide (x∈xs)=bb:=⟨_,rfl⟩
   rw[eb] at hH
   have HB:Hid (decide (x∈xs)=bb):=eb
   clear h ex em hR hr1 epre eb
   go_wp2_with fail
   refine hH.mono ?_
   rintro e wp ⟨rfl,hbp⟩
   replace hO:=(show zb7 wp (w.heap.size+1) _ pre from zj2 hO hbp)
   replace c3:=zab hbp c3
   replace hb:=zaj hb hzo hbp
   have hzp:=hb.size
   have hgl:w.heap.size<wp.heap.size:=World.block_lt_of_cell? _ _ c3
   clear hbp hH
   rcases bb with _|_
   ·have HT2:Hid (zbv fs (i+1) x=pre):=by
     show _=_
     rw[HT.out,if_neg (of_decide_eq_false HB.out)]
    go_wp2_with fail
    go_roundw
    case rel=>exact⟨i+1,by omega,by go_num,by rw[HT2.out];exact hO,c3,hb⟩
    case measure=>simp[intOf];omega
   ·have HT2:Hid (zbv fs (i+1) x=pre++[(i:Int)]):=by
     show _=_
     rw[HT.out,if_pos (of_decide_eq_true HB.out)]
    go_wp2_with (at_builtin;refine wpList_append_lies _ rfl _ _ _ rfl (w.heap.size+1) 3 i0 (.int .i64 0) 1 8 SqP.underlying25 hi iz0 iz1 iz2 rfl (by omega) _ pre.length (zbG pre) rfl (World.ownsRow.alloc hO _) ⟨wp.heap.size,0,none⟩ 1 1 [.int .i64 i] rfl rfl (World.news_of_block (cs:=#[.int .i64 i]) (t:=3) (fr:=(0,0)) (heap_alloc_new wp _)) (by simp[Value.oneCell']) (by omega) (by unfold maxLen;omega) (by omega) (by simp;omega) (wp.heap.size+1) (by simp) ?_)
    intro g6 k6 w6 hO6 hg6 hat6 hlt6
    have hbA:Below wp.heap.size wp (wp.alloc (.cells #[.int .i64 i] 3)):=(Below.refl _ _).alloc (Nat.le_refl _) _
    have hown:=fun k q=>(World.ownsRow.lt hO k q).1
    have hz6:=hg6.size
    simp at hz6
    have hb6:Below w.heap.size w w6:=by
     refine⟨(hg6.os.trans hbA.os).trans hb.os,(hg6.tape.trans hbA.tape).trans hb.tape,(hg6.output.trans hbA.output).trans hb.output,by omega,fun k hk=>?_⟩
     rw[hg6.block k (by simp;omega) (fun q=>by have:=hown k q.symm;omega),hbA.block k (by omega)]
     exact hb.block k hk
    have hkeep:w6.heap[w.heap.size]?=wp.heap[w.heap.size]?:=by
     rw[hg6.block _ (by simp;omega) (fun q=>by have:=hown _ q.symm;omega),hbA.block _ hgl]
    have q3:w6.cell? ⟨w.heap.size,3,none⟩=some (.slice (some ⟨b,off,none⟩) N cap):=by rw[World.cell?_of_block (w:=wp) hkeep];exact c3
    have hO7:zb7 w6 (w.heap.size+1) (.slice (some ⟨g6,0,none⟩) (pre.length+1) k6) (pre++[(i:Int)]):=by
     unfold zb7
     rw[show (pre++[(i:Int)]).length=pre.length+1 by simp]
     have e:zbG (pre++[(i:Int)])=zbG pre++[.int .i64 i]:=by simp[zbG]
     rw[e]
     exact hO6
    clear hO6 hg6 hat6 hb hO hbA hown c3 hkeep
    go_wp2_with fail
    go_roundw
    case rel=>exact⟨i+1,by omega,by go_num,by rw[HT2.out];exact hO7,q3,hb6⟩
    case measure=>simp[intOf];omega
  ·have hnl:¬ (i:Int)<(N:Int):=by omega
   obtain rfl:i=N:=by omega
   clear h
   go_wp2_with fail
   go_ret
   exact⟨_,rfl,zbH hO (by omega),hb⟩
end Sp
namespace Sp
open Go.RowKit Go.Maps
attribute [local go_sem ↓] Go.wp_at_zero Go.wp_at_succ
def zc1(wd:Int)(cs:List (Int × Int)):Nat:=(zb1 wd cs).toNat
def znQ(wd:Int)(cs:List (Int × Int)):List Int:=(List.range (zc1 wd cs)).map fun (j:Nat)=>za3 wd cs (j:Int)
def zhq(wd:Int)(cs:List (Int × Int)):List (List Int):=(List.range (zc1 wd cs)).map fun (j:Nat)=>zaL wd cs (j:Int)
theorem zfC(wd:Int)(cs:List (Int × Int)):(zhq wd cs).length=zc1 wd cs:=by simp[zhq]
theorem zkJ{k:Nat}(h:k<zc1 wd cs):(zhq wd cs).getD k []=zaL wd cs (k:Int):=by simp[zhq,h]
theorem zns(wd:Int)(cs:List (Int × Int))(k:Int):(zaL wd cs k).Pairwise (· < ·):=by
 unfold zaL zaM
 rw[List.pairwise_map]
 refine List.Pairwise.imp (R:=(· < ·)) (fun h=>by omega) ?_
 exact List.Pairwise.sublist List.filter_sublist List.pairwise_lt_range
theorem zjH(wd:Int)(cs:List (Int × Int))(k:Int):(zaL wd cs k).Nodup:=(zns wd cs k).imp fun h e=>by omega
theorem zpE{k x:Int}(h:x∈zaL wd cs k):0<=x/\x<(cs.length:Int):=by
 unfold zaL zaM at h
 simp only[List.mem_map,List.mem_filter,List.mem_range] at h
 obtain⟨i,⟨h1,_⟩,rfl⟩:=h
 omega
theorem ziL(h:okG wd cs=true):cs.length<=25/\0<cs.length/\zc1 wd cs<=20/\zb1 wd cs=(zc1 wd cs:Int):=by
 obtain⟨W,H,S⟩:=zeh h
 have hn:cs.length<=25:=by rw[S.el];exact Nat.le_trans (Nat.mul_le_mul S.hW.2 S.hH.2) (by omega)
 have hp:0<cs.length:=by rw[S.el];exact Nat.mul_pos (by have:=S.hW;omega) (by have:=S.hH;omega)
 have e:=S.em
 have:=S.hW
 have:=S.hH
 have q:zc1 wd cs=2 * (W+H):=by unfold zc1;omega
 exact⟨hn,hp,by omega,by omega⟩
theorem zfB(h:okG wd cs=true):zjm (zhq wd cs):=by
 obtain⟨h1,h2,h3,h4⟩:=ziL h
 refine⟨by rw[zfC];omega,fun k hk=>?_⟩
 rw[zfC] at hk
 rw[zkJ hk]
 refine⟨Nat.le_trans (zhu _ _) (by omega),fun j hj=>?_⟩
 have hm:(zaL wd cs (k:Int)).getD j 0∈zaL wd cs (k:Int):=by
  simp only[List.getD,List.getElem?_eq_getElem hj,Option.getD_some]
  exact List.getElem_mem hj
 have:=zpE hm
 omega
def zon(wd:Int)(cs:List (Int × Int))(ls:List Int)(fs:List (List Int)):Bool:=okG wd cs && decide (ls=znQ wd cs) && decide (fs=zhq wd cs)
theorem zlb(h:zon wd cs ls fs=true):okG wd cs=true/\ls=znQ wd cs/\fs=zhq wd cs:=by
 unfold zon at h
 simp only[Bool.and_eq_true,decide_eq_true_eq] at h
 exact⟨h.1.1,h.1.2,h.2⟩
theorem zl7(l:List Int):(List.range l.length).map (fun i=>l.getD i 0)=l:=by
 refine List.ext_getElem (by simp) fun i h1 h2=>?_
 simp[List.getD,h2]
theorem zlc(wd:Int)(cs:List (Int × Int))(ls:List Int)(fs:List (List Int))(hS:zdA cs ls fs) :
  (∀(g l f:Option Addr) (gc lc fc:Nat) (w:World),ScM w g l f cs ls fs->Calls SqP.prog 33 #[.agg #[.int .i64 wd,.slice g cs.length gc,.slice l ls.length lc,.slice f fs.length fc]] w fun e w'=>e=.returned (.bool (zon wd cs ls fs))/\Below w.heap.size w w') /\
  (∀(g l f:Option Addr) (gc lc fc:Nat) (w:World),ScM w g l f cs ls fs->Calls SqP.prog 28 #[.agg #[.int .i64 wd,.slice g cs.length gc,.slice l ls.length lc,.slice f fs.length fc]] w fun e w'=>e=.returned (.bool (zon wd cs ls fs))/\Below w.heap.size w w'):=by
 rcases hk:okG wd cs with _|_
 ·have e:zon wd cs ls fs=(false && decide (ls=(List.range 0).map fun _=>(0:Int)) && decide (fs=(List.range 0).map fun (k:Nat)=>(List.range ((fun (_:Nat)=>0) k)).map ((fun (_ _:Nat)=>(0:Int)) k))):=by simp[zon,hk]
  rw[e]
  exact⟨fun g l' f' gc lc fc w h=>zcZ wd g l' f' gc lc fc cs ls fs w h.1 h.2.1 h.2.2 hS (by simp) (by simp) (by omega) (fun k hk=>by simp at hk) (fun a cap w h=>(zla wd a cap cs w h (by have:=hS.1;omega) hk).mono fun e w' q=>zhk (zqX q.1 q.2)),
   fun g l' f' gc lc fc w h=>zc7 wd g l' f' gc lc fc cs ls fs w h.1 h.2.1 h.2.2 hS (by simp) (by simp) (by omega) (fun k hk=>by simp at hk) (fun a cap w h=>(zf2 wd a cap cs w h hS.1 hk).mono fun e w' q=>zhk (zqX q.1 q.2))⟩
 ·obtain⟨W,H,S⟩:=zeh hk
  obtain⟨hn,hp,hM20,hMG⟩:=ziL hk
  have hM:2 * (W+H)=zc1 wd cs:=by have:=S.em;unfold zc1;omega
  have e:zon wd cs ls fs=(true && decide (ls=(List.range (zc1 wd cs)).map fun (j:Nat)=>za3 wd cs (j:Int)) && decide (fs=(List.range (zc1 wd cs)).map fun (k:Nat)=>(List.range (zaL wd cs (k:Int)).length).map ((fun (j i:Nat)=>(zaL wd cs (j:Int)).getD i 0) k))):=by
   have q:((List.range (zc1 wd cs)).map fun (k:Nat)=>(List.range (zaL wd cs (k:Int)).length).map ((fun (j i:Nat)=>(zaL wd cs (j:Int)).getD i 0) k))=zhq wd cs:=by
    unfold zhq
    refine List.map_congr_left fun k _=>zl7 _
   rw[q]
   unfold zon
   rw[hk]
   rfl
  have hx:∀ k,k<((List.range (zc1 wd cs)).map fun (k:Nat)=>(List.range (zaL wd cs (k:Int)).length).map ((fun (j i:Nat)=>(zaL wd cs (j:Int)).getD i 0) k)).length->(((List.range (zc1 wd cs)).map fun (k:Nat)=>(List.range (zaL wd cs (k:Int)).length).map ((fun (j i:Nat)=>(zaL wd cs (j:Int)).getD i 0) k)).getD k []).length<=1048576:=fun k hk=>by
   have hk':k<zc1 wd cs:=by simpa using hk
   have:(zaL wd cs (k:Int)).length<=cs.length:=zhu _ _
   simp[hk']
   omega
  rw[e]
  exact⟨fun g l' f' gc lc fc w h=>zcZ wd g l' f' gc lc fc cs ls fs w h.1 h.2.1 h.2.2 hS (by simp) (by simp) hM20 hx (fun a cap w h=>(zoo wd a cap cs w h hn hp hk (zc1 wd cs) (by rw[hMG]) hM20).mono fun e w' ⟨gc,bl,bf,arrL,arrF,xs,q1,q2⟩=>zhk (zmX q2.toS q1)),
   fun g l' f' gc lc fc w h=>zc7 wd g l' f' gc lc fc cs ls fs w h.1 h.2.1 h.2.2 hS (by simp) (by simp) hM20 hx (fun a cap w h=>(ze2 S a cap w h).mono fun e w' ⟨gc,c,bl,bf,arrL,arrF,xs,q1,q2⟩=>zhk (zmX (by rw[<- hM];exact q2) (by rw[<- hM];exact q1)))⟩
def zch(wd:Int)(cs:List (Int × Int))(ls:List Int)(fs:List (List Int))(x:Int):List Int:=if zon wd cs ls fs=true then zbv fs fs.length x else []
theorem zp9(w:World)(B:Nat):zb7 w B (.slice none 0 0) []:=World.ownsRow_nil _ _ _ _
theorem zhS(wd x:Int)(g l f:Option Addr)(gc lc fc:Nat)(cs:List (Int × Int))(ls:List Int)(fs:List (List Int))(w:World)(hM:ScM w g l f cs ls fs)(hS:zdA cs ls fs) :
  Calls SqP.prog 7 #[.agg #[.int .i64 wd,.slice g cs.length gc,.slice l ls.length lc,.slice f fs.length fc],.int .i64 x] w fun e w'=>∃ v,e=.returned v/\zb7 w' w.heap.size v (zch wd cs ls fs x)/\Below w.heap.size w w':=by
 obtain⟨w2,hw2⟩:∃ w2,w2=w.alloc (.cells #[.int .i64 wd,.slice g cs.length gc,.slice l ls.length lc,.slice f fs.length fc] 35):=⟨_,rfl⟩
 obtain⟨x1,hb2⟩:=zbr (.cells #[.int .i64 wd,.slice g cs.length gc,.slice l ls.length lc,.slice f fs.length fc] 35) w
 rw[<- hw2] at x1 hb2
 have hC:=(zlc wd cs ls fs hS).2 g l f gc lc fc w2 (hM.below hb2)
 obtain⟨b,eb⟩:∃ b,zon wd cs ls fs=b:=⟨_,rfl⟩
 rw[eb] at hC
 obtain⟨c0,c1,c2,c3⟩:=zcm x1
 have HF:Hid (zde w f fs):=hM.2.2
 have ET:Hid (zch wd cs ls fs x=if b=true then zbv fs fs.length x else []):=by show _=_;unfold zch;rw[eb]
 have HY:Hid (b=true->zjm fs):=fun q=>by
  obtain⟨q1,_,q3⟩:=zlb (eb.trans q)
  rw[q3]
  exact zfB q1
 clear hM hS x1 eb
 go_enter SqP.func7,Tryz.ntmps7
 go_upto_region 1 with fail
 rw[<- hw2]
 clear hw2
 go_wp2_with fail
 refine hC.mono ?_
 rintro e w3 ⟨rfl,hb3⟩
 have hB:=zaj hb2 hb2.size hb3
 replace c0:=zab hb3 c0;replace c1:=zab hb3 c1;replace c2:=zab hb3 c2;replace c3:=zab hb3 c3
 clear hb3 hC hb2
 rcases b with _|_
 ·go_wp2_with fail
  go_ret
  exact⟨_,rfl,by rw[ET.out];exact⟨rfl,Or.inr ⟨w3.heap.size,0,#[],rfl,hB.size,heap_alloc_new w3 _,Nat.le_refl _,by unfold maxLen;omega,rfl,rfl⟩⟩,zaj hB hB.size ((Below.refl _ _).alloc (Nat.le_refl _) _)⟩
 ·have hT:=ziy wd x g l f gc lc fc cs.length ls.length fs w3 (HF.out.below hB) (HY.out rfl)
  go_wp2_with fail
  refine hT.mono ?_
  rintro e w4 ⟨v,rfl,hO,hb4⟩
  have hB4:=zaj hB hB.size hb4
  clear c0 c1 c2 c3 hb4 hT
  go_wp2_with fail
  go_ret
  exact⟨_,rfl,by rw[ET.out];exact zbH hO hB.size,hB4⟩
theorem zhC(wd x:Int)(hx:-9223372036854775808<=x/\x<=9223372036854775807)(g l f:Option Addr)(gc lc fc:Nat)(cs:List (Int × Int))(ls:List Int)(fs:List (List Int))(w:World)(hM:ScM w g l f cs ls fs)(hS:zdA cs ls fs) :
  Calls SqP.prog 9 #[.agg #[.int .i64 wd,.slice g cs.length gc,.slice l ls.length lc,.slice f fs.length fc],.int .i64 x] w fun e w'=>∃ v,e=.returned v/\zb7 w' w.heap.size v (zch wd cs ls fs x)/\Below w.heap.size w w':=by
 obtain⟨w2,hw2⟩:∃ w2,w2=w.alloc (.cells #[.int .i64 wd,.slice g cs.length gc,.slice l ls.length lc,.slice f fs.length fc] 35):=⟨_,rfl⟩
 obtain⟨x1,hb2⟩:=zbr (.cells #[.int .i64 wd,.slice g cs.length gc,.slice l ls.length lc,.slice f fs.length fc] 35) w
 rw[<- hw2] at x1 hb2
 have hC:=(zlc wd cs ls fs hS).1 g l f gc lc fc w2 (hM.below hb2)
 obtain⟨b,eb⟩:∃ b,zon wd cs ls fs=b:=⟨_,rfl⟩
 rw[eb] at hC
 obtain⟨c0,c1,c2,c3⟩:=zcm x1
 have HF:Hid (zde w f fs):=hM.2.2
 have ET:Hid (zch wd cs ls fs x=if b=true then zbv fs fs.length x else []):=by show _=_;unfold zch;rw[eb]
 have HY:Hid (b=true->zjm fs/\tch fs fs.length x=zbv fs fs.length x):=fun q=>by
  obtain⟨q1,_,q3⟩:=zlb (eb.trans q)
  refine⟨by rw[q3];exact zfB q1,zg6 fs x fs.length fun j hj=>?_⟩
  rw[q3] at hj ⊢
  rw[zfC] at hj
  rw[zkJ hj]
  exact zjH _ _ _
 clear hM hS x1 eb
 go_enter SqP.func9,Tryz.ntmps9
 go_upto_region 1 with fail
 rw[<- hw2]
 clear hw2
 go_wp2_with fail
 refine hC.mono ?_
 rintro e w3 ⟨rfl,hb3⟩
 have hB:=zaj hb2 hb2.size hb3
 replace c0:=zab hb3 c0;replace c1:=zab hb3 c1;replace c2:=zab hb3 c2;replace c3:=zab hb3 c3
 clear hb3 hC hb2
 rcases b with _|_
 ·go_wp2_with fail
  go_ret
  exact⟨_,rfl,by rw[ET.out];exact zp9 _ _,hB⟩
 ·obtain⟨y1,y2⟩:=HY.out rfl
  have hn20:=y1.1
  have hT:=zka f fc fs w3 (HF.out.below hB) y1
  have hkey:keyOf SqP.prog 3 (.int .i64 x)=some (.int .i64 x):=keyOf_int_mk SqP.underlying3 (WalkArith.wf_i64 hx)
  have HY2:Hid (tch fs fs.length x=zbv fs fs.length x):=y2
  clear y1 y2
  go_wp2_with fail
  refine hT.mono ?_
  rintro e w4 ⟨n,rfl,hn,⟨D,hown,hD⟩,hb4⟩
  have hB4:=zaj hB hB.size hb4
  have hz3:=hB.size
  clear c0 c1 c2 c3 hb4 hT
  go_wp2_with (first
   | (at_lookup;refine wpList_lookup_groups _ rfl _ _ 67 rfl 3 25 3 .i64 zq1 SqP.underlying67 (zlo _) (w3.heap.size+1) w3.heap.size n D rfl hown (by unfold maxLen;omega) _ _ rfl hkey ?_;intro u zs hat hoi hzl hback)
   | fail)
  go_ret
  have e:=(hD x).zs hat hoi
  subst e
  refine⟨_,rfl,?_,hB4⟩
  rw[ET.out,if_pos trivial,<- HY2.out]
  exact zbH hoi.1 (by omega)
