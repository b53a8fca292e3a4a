/- 'laws.FnExactAlbumOk' returns true at every album, on every schedule of its goroutines: AlbumOk answers as it is specified, and writes into nothing of its argument. No condition. -/
import Derived.Lib.SmallJoins
import Derived.Deep.SlicePairs
import Derived.Deep.Matrix
import Derived.Deep.Slices
import Derived.Conc.LeavingOf
import Derived.Test.YtnlhffcgaeooiaaGreatMBh
import Derived.Test.YtnlhffcgaeooiaaGreatMBm
set_option linter.unusedVariables false
namespace Go.Proofs.YtnlhffcgaeooiaaGreat
variable{X:FuncId->Prop}{es ns:List (Int × Int × Int)}{cs:List (Int × Int)}{fs:List (List Int)}{ls xs:List Int}{vs:List Value}{base n:Nat}{K:Nat->Prop}{a f g l:Option Addr}{u:TypeId}{v:Value}{Post PostL:Value->World->Prop}{w:World}
section
open Go Go.Conc Go.ConcN
open Go.RowKit
variable{L M:Program}
open Classical in
noncomputable def zpF(K:Nat->Prop)(v:Value):Value:=if zao (zcp K) v v then v else zru v
theorem zpG(hx:zbu=false)(v:Value):zao (zcp K) (zpF K v) v:=by
 unfold zpF
 split
 ·assumption
 ·exact zkK hx (zeX K) v
theorem zhC(k:IntKind)(n:Int):zpF K (.int k n)=.int k n:=by
 unfold zpF
 rw[if_pos (.int k n)]
noncomputable def zgk(K:Nat->Prop)(w:World):World:={ w with heap:=w.heap.map fun|.cells c e _=>.cells (c.map (zpF K)) e (0,c.size)|o=>o }
theorem zdN(K:Nat->Prop)(w:World)(a:Addr):(zgk K w).cell? a=(w.cell? a).map (zpF K):=by
 unfold World.cell? zgk
 simp only[Array.getElem?_map]
 cases w.heap[a.block]? with
 | none=>rfl
 | some o =>
  cases o with
  | cells c e f =>
   simp only[Option.map_some]
   split
   ·rfl
   ·simp
  | _=>rfl
theorem zcP(K:Nat->Prop)(w:World):(zgk K w).heap.size=w.heap.size:=by simp[zgk]
theorem zo8(h:Closed K w):zba w.heap.size (zcp K) (zgk K w) w:=by
 refine⟨zeX K,?_,rfl,rfl,by rw[zcP];exact Nat.le_refl _⟩
 rintro b c ⟨rfl,hb⟩
 rcases h b hb with ⟨x,e,f,hx,hxo⟩|⟨ho,a,l,hx,hr⟩
 ·exact⟨.cells (x.map (zpF K)) e (0,x.size),.cells x e f,by simp[zgk,hx],hx,.cells ⟨by simp,fun i h1 h2=>by simp only[Array.getElem_map];exact zpG hxo _⟩ (fun _ i hi=>⟨Nat.zero_le _,by simpa using hi⟩) (fun q=>absurd (gei hx).1 q)⟩
 ·exact⟨.number a l,.number a l,by simp[zgk,hx],hx,.other (.number hr) (fun q=>by rw[ho] at q;cases q)⟩
def rowsOf(w:World):Nat->Prop:=fun b=>∃ c e f,w.heap[b]?=some (.cells c e f)
theorem zhz(hx:zbu=false):Closed (rowsOf w) w:=fun _ ⟨c,e,f,h⟩=>.inl ⟨c,e,f,h,hx⟩
theorem znh[T:zaB L M][zaB L L](W:Whole L)(B:Bodies L M X){f:FuncId}{fn:Func}(hf:L.funcs[f]?=some fn)(hb:fn.body.isSome=true)(hnX:¬ X f)(hres:zbM fn=true)(hin:M.inits.idxOf? f=none){a:Array Value}(hcl:Closed K w)(ha:zaz (zcp K) a a)(hX:XOk L M X w.heap.size)(hP:∀ v w τ d,PostL v w->PostL v (w.tp τ d))(hC:∀ τ d,Calls L f a ((zgk K w).tp τ d) fun e w'=>∃ v,e=.returned v/\PostL v w')(hpost:∀ R v v' wl w',zao R v v'->PostL v wl->Below w.heap.size w w'->Post v' w') :
  ∃ n last o w' t',runNT M (n+1) (solo (G (Frame.enter M f a .normal) []) w) #[]=(.ended o w',t')/\runN M n (solo (G (Frame.enter M f a .normal) []) w)=.next last/\step M last=.ended o w'/\Go.Conc.Good M Post last o w' t':=by
 have hent:zgm L (zcp K) (Frame.enter L f a .normal) (Frame.enter M f a .normal):=zdJ B hf hb hnX ha
 have hrel:=zo8 hcl
 have hG:=zdO hf hres hP hC
 have hT:=zc4 W (zrq.tp (L:=L) (f:=f) (Post:=PostL)) hG ⟨_,_,_,[],_,hent,.nil,hrel⟩
 rw[solo_eq_crowd]
 refine zpn B W.zero hX (w0:=w) (Post:=Post) ?_ hT (zcp K) _ [] w (fun _=>False) #[G (Frame.enter M f a .normal) []] #[] (fun _=>0) none hent .nil (by
  have e:(zgk K w).tp w.tape w.drawn=zgk K w:=rfl
  rw[e]
  exact hrel) (zqN M _ w) rfl (fun _ _ _ h=>h) (fun b c hbc hn=>by rw[<- hbc.1];exact hn) (fun _ h=>h.elim) (Nat.le_refl _) (Below.refl _ _)
 rintro R fr fr' wl w1 ⟨ho,t,rfl,ht⟩ hF hBl
 obtain⟨e,fn1,hfn1,hp⟩:=hF wl.tape wl.drawn
 rw[hf] at hfn1
 cases hfn1
 refine⟨fn,by show M.funcs[fr.fn]?=some fn;rw[e];exact B.same f fn hf hb hnX,hres,by show M.inits.idxOf? fr.fn=none;rw[e];exact hin,?_⟩
 exact hpost R _ _ wl w1 (ziz rfl ht) (hp wl.tape wl.drawn) hBl
end
section
open Go.ChangeShapes Go.WideShapes Go.ChangeAt Go.RowKit Go.Joins Go.Deep
theorem own:ownKnob Tryz.prog.godebug=none:=by kernel_rfl
theorem laidOut:laidOutB Tryz.prog=true:=by kernel_rfl
theorem zmx:Tryz.prog.cellsOf 93=2:=by kernel_rfl
theorem zqO:Tryz.prog.cellsOf 24=2:=by kernel_rfl
theorem zcv:Tryz.prog.cellsOf 3=1:=by kernel_rfl
theorem zgq{H:Type}{enc:TypeId × Value->H}{W:World}{fuel:Nat}{x:DataW H × List MemPlace}(h:DataW.trod enc Tryz.prog W 0 (fun _=>true) true fuel 22 vs=some x) :
  ∃ a cap cs,vs=[.slice a (List.length cs) cap]/\Sp.zaj W a cs/\cs.length<=9223372036854775807:=by
 rcases open_slice_pairs Tryz.underlying22 Tryz.underlying93 zmx rfl rfl zcv zcv h with ⟨rfl,_⟩|⟨a,len,cap,m,n,V0,V1,D0,D1,P0,P1,rfl,_,hl,hm,hmm,_,hc⟩
 ·exact⟨none,0,[],rfl,Or.inl rfl,by simp⟩
 ·have hm':m=cap:=by simpa using hmm
  have each:∀ i,i<len->∃ q:Int × Int,W.cell? (a.add (i * 2))=some (.int .i64 q.1)/\W.cell? (a.add (i * 2+1))=some (.int .i64 q.2):=by
   intro i hi
   obtain⟨e0,e1,t0,t1⟩:=hc i (by omega)
   obtain⟨x0,h0,_⟩:=DataW.trod_int Tryz.underlying3 t0
   obtain⟨x1,h1,_⟩:=DataW.trod_int Tryz.underlying3 t1
   simp only[List.cons.injEq,and_true] at h0 h1
   rw[h0] at e0
   rw[h1] at e1
   exact⟨(x0,x1),e0,e1⟩
  obtain⟨q,hq⟩:=choose_lt each
  refine⟨some a,cap,(List.range len).map q,by simp,?_,by unfold maxLen at hm;simp;omega⟩
  by_cases h0:len=0
  ·subst h0;exact Or.inl rfl
  ·obtain⟨b,off,spot⟩:=a
   have hs:spot=none:=by simpa [Addr.add] using World.cell?_spot (hq 0 (by omega)).1
   subst hs
   have hadd:∀ j,(⟨b,off,none⟩:Addr).add j=⟨b,off+j,none⟩:=by intro j;unfold Addr.add;split <;> simp_all
   refine Or.inr ⟨b,off,rfl,?_,fun i hi=>?_⟩
   ·have h1:=(hq 0 (by omega)).1
    rw[hadd] at h1
    exact World.block_lt_of_cell? W _ h1
   ·have hi':i<len:=by simpa using hi
    have h1:=hq i hi'
    rw[hadd,hadd] at h1
    have hg:((List.range len).map q).getD i (0,0)=q i:=by simp[hi']
    rw[hg]
    exact h1
theorem znN{a:Addr}(h:w.cell? a=some v):rowsOf w a.block:=by
 unfold World.cell? at h
 cases hb:w.heap[a.block]? with
 | none=>simp[hb] at h
 | some x =>
  cases x with
  | cells c e f=>exact⟨c,e,f,hb⟩
  | _=>simp[hb] at h
theorem zlJ{c:Nat}(hn:n<=c)(h:∀ x,a=some x->0<c->rowsOf w x.block):zao (zcp (rowsOf w)) (.slice a n c) (.slice a n c):=by
 cases a with
 | none=>exact .nilSlice _ _
 | some x =>
  rcases Nat.eq_zero_or_pos c with rfl|hc
  ·obtain rfl:n=0:=by omega
   exact .empty _ _
  ·exact .slice _ _ ⟨⟨rfl,h x rfl hc⟩,rfl,rfl⟩
theorem znQ(h:zao (zcp K) v v):zpF K v=v:=by
 unfold zpF
 rw[if_pos h]
def R2K(w:World)(a:Option Addr)(fs:List (List Int)):Prop:=fs=[]\/∃ b off,a=some ⟨b,off,none⟩/\b<w.heap.size/\∀ k,k<fs.length->∃ a' c',w.cell? ⟨b,off+k,none⟩=some (.slice a' (fs.getD k []).length c')/\zao (zcp (rowsOf w)) (.slice a' (fs.getD k []).length c') (.slice a' (fs.getD k []).length c')/\Sp.zcu w a' (fs.getD k [])
theorem zqu(h:Sp.zcu w a xs)(τ:Nat->Question->Nat)(d:Nat):Sp.zcu ((zgk (rowsOf w) w).tp τ d) a xs:=by
 rcases h with h|⟨b,off,rfl,hl,hc⟩
 ·exact .inl h
 ·refine .inr ⟨b,off,rfl,by show b<(zgk (rowsOf w) w).heap.size;rw[zcP];exact hl,fun i hi=>?_⟩
  have q:=zdN (rowsOf w) w ⟨b,off+i,none⟩
  rw[hc i hi,Option.map_some,zhC] at q
  exact q
theorem zrR(h:R2K w a fs)(τ:Nat->Question->Nat)(d:Nat):Sp.zdo ((zgk (rowsOf w) w).tp τ d) a fs:=by
 rcases h with h|⟨b,off,rfl,hl,hc⟩
 ·exact .inl h
 ·refine .inr ⟨b,off,rfl,by show b<(zgk (rowsOf w) w).heap.size;rw[zcP];exact hl,fun k hk=>?_⟩
  obtain⟨a',c',q1,q2,q3⟩:=hc k hk
  refine⟨a',c',?_,zqu q3 τ d⟩
  have q:=zdN (rowsOf w) w ⟨b,off+k,none⟩
  rw[q1,Option.map_some,znQ q2] at q
  exact q
theorem zk6(h:Sp.zaj w a cs)(τ:Nat->Question->Nat)(d:Nat):Sp.zaj ((zgk (rowsOf w) w).tp τ d) a cs:=by
 rcases h with h|⟨b,off,rfl,hl,hc⟩
 ·exact .inl h
 ·refine .inr ⟨b,off,rfl,by show b<(zgk (rowsOf w) w).heap.size;rw[zcP];exact hl,fun i hi=>?_⟩
  have one:∀ j (x:Int),w.cell? ⟨b,j,none⟩=some (.int .i64 x)->((zgk (rowsOf w) w).tp τ d).cell? ⟨b,j,none⟩=some (.int .i64 x):=fun j x h=>by
   have q:=zdN (rowsOf w) w ⟨b,j,none⟩
   rw[h,Option.map_some,zhC] at q
   exact q
  exact⟨one _ _ (hc i hi).1,one _ _ (hc i hi).2⟩
def ScK(w:World)(g l f:Option Addr)(cs:List (Int × Int))(ls:List Int)(fs:List (List Int)):Prop:=Sp.zaj w g cs/\Sp.zcu w l ls/\R2K w f fs
theorem zra(h:ScK w g l f cs ls fs)(τ:Nat->Question->Nat)(d:Nat):Sp.ScM ((zgk (rowsOf w) w).tp τ d) g l f cs ls fs :=
 ⟨zk6 h.1 τ d,zqu h.2.1 τ d,zrR h.2.2 τ d⟩
set_option maxRecDepth 20000 in
theorem zfl{W:World}{cap:Nat}{ad:Addr}(hk:Cell.okWide Tryz.prog W .any base u (.slice (some ad) n cap)):rowsOf W ad.block/\n<=cap:=by
 have hk':Cell.ok Tryz.prog W .any base u (.slice (some ad) n cap):=by
  revert hk
  unfold Cell.okWide
  cases Tryz.prog.underlying u with
  | none=>exact id
  | some d=>cases d <;> exact id
 unfold Cell.ok at hk'
 cases hu:Tryz.prog.underlying u with
 | none=>rw[hu] at hk';exact hk'.elim
 | some d =>
  rw[hu] at hk'
  cases d with
  | slice e =>
   obtain⟨hn,_,_,_,row,cells,hs,_⟩:=hk'
   refine⟨?_,hn⟩
   unfold World.shape? at hs
   cases hb:W.heap[ad.block]? with
   | none=>rw[hb] at hs;cases hs
   | some o =>
    rw[hb] at hs
    cases o with
    | cells c e f=>exact⟨c,e,f,hb⟩
    | _=>cases hs
  | _=>exact hk'.elim
set_option maxRecDepth 20000 in
theorem zbe{W:World}{cap:Nat}(hk:Cell.okWide Tryz.prog W .any base u (.slice a n cap)):zao (zcp (rowsOf W)) (.slice a n cap) (.slice a n cap):=by
 cases a with
 | none=>exact .nilSlice _ _
 | some ad=>exact .slice _ _ ⟨⟨rfl,(zfl hk).1⟩,rfl,rfl⟩
section
variable{H:Type}{enc:TypeId × Value->H}{W:World}{fuel:Nat}
set_option maxRecDepth 20000 in
theorem zlA{x:DataW H × List MemPlace}(h:DataW.trod enc Tryz.prog W 0 (fun _=>true) true fuel 25 vs=some x) :
  ∃ a cap xs,vs=[.slice a (List.length xs) cap]/\Sp.zcu W a xs/\xs.length<=9223372036854775807:=by
 rcases open_ints Tryz.underlying25 Tryz.underlying3 zcv h with ⟨rfl,_⟩|⟨x,len,cap,zs,rfl,_,hl,hm,hz,_,hcell,_⟩
 ·exact⟨none,0,[],rfl,.inl rfl,by simp⟩
 ·have hzl:zs.length=cap:=by simpa using hz
  have hln:(zs.take len).length=len:=by simp;omega
  refine⟨some x,cap,zs.take len,by rw[hln],?_,by rw[hln];unfold maxLen at hm;omega⟩
  by_cases h0:len=0
  ·exact .inl (by rw[h0];simp)
  ·obtain⟨b,off,spot⟩:=x
   have hs:spot=none:=by simpa [Addr.add] using World.cell?_spot (hcell 0 (by omega))
   subst hs
   have hadd:∀ j,(⟨b,off,none⟩:Addr).add j=⟨b,off+j,none⟩:=by intro j;unfold Addr.add;split <;> simp_all
   refine .inr ⟨b,off,rfl,?_,fun i hi=>?_⟩
   ·have h1:=hcell 0 (by omega)
    rw[hadd] at h1
    exact World.block_lt_of_cell? W _ h1
   ·rw[hln] at hi
    have h1:=hcell i (by omega)
    rw[hadd] at h1
    rw[h1]
    simp[List.getD,hi]
theorem zkd:Tryz.prog.cellsOf 25=1:=by kernel_rfl
set_option maxRecDepth 20000 in
theorem zlC{x:DataW H × List MemPlace}(h:DataW.trod enc Tryz.prog W 0 (fun _=>true) true fuel 26 vs=some x) :
  ∃ a cap fs,vs=[.slice a (List.length fs) cap]/\R2K W a fs/\fs.length<=9223372036854775807/\∀ k,k<fs.length->(fs.getD k []).length<=9223372036854775807:=by
 rcases open_int_rows Tryz.underlying26 Tryz.underlying25 Tryz.underlying3 zkd zcv h with ⟨rfl,_⟩|⟨a,len,cap,A,L,C,Z,rfl,_,hl,hm,_,hr⟩
 ·exact⟨none,0,[],rfl,.inl rfl,by simp,fun k hk=>by simp at hk⟩
 ·have hln:((List.range len).map fun r=>(Z r).take (L r)).length=len:=by simp
  have hat:∀ k,k<len->((List.range len).map fun r=>(Z r).take (L r)).getD k []=(Z k).take (L k):=fun k hk=>by simp[hk]
  have htk:∀ k,k<len->((Z k).take (L k)).length=L k:=fun k hk=>by
   obtain⟨_,q1,_,q3,_⟩:=hr k (by omega)
   simp
   omega
  refine⟨some a,cap,(List.range len).map fun r=>(Z r).take (L r),by rw[hln],?_,by rw[hln];unfold maxLen at hm;omega,fun k hk=>?_⟩
  ·by_cases h0:len=0
   ·exact .inl (by rw[h0];simp)
   ·obtain⟨b,off,spot⟩:=a
    have hs:spot=none:=by simpa [Addr.add] using World.cell?_spot (hr 0 (by omega)).1
    subst hs
    have hadd:∀ j,(⟨b,off,none⟩:Addr).add j=⟨b,off+j,none⟩:=by intro j;unfold Addr.add;split <;> simp_all
    refine .inr ⟨b,off,rfl,?_,fun k hk=>?_⟩
    ·have h1:=(hr 0 (by omega)).1
     rw[hadd] at h1
     exact World.block_lt_of_cell? W _ h1
    ·rw[hln] at hk
     obtain⟨q0,q1,q2,q3,_,q5,q6⟩:=hr k (by omega)
     rw[hadd] at q0
     rw[hat k hk,htk k hk]
     refine⟨A k,C k,q0,zlJ q1 fun x e hc=>?_,?_⟩
     ·have h1:=(q6 x e).2 0 hc
      have:=znN h1
      unfold Addr.add at this
      split at this <;> exact this
     ·by_cases hL:L k=0
      ·exact .inl (by rw[hL];simp)
      ·cases hA:A k with
       | none=>have:=q5 hA;omega
       | some x =>
        have hc:=(q6 x hA).2
        obtain⟨b',off',spot'⟩:=x
        have hs':spot'=none:=by simpa [Addr.add] using World.cell?_spot (hc 0 (by omega))
        subst hs'
        have hadd':∀ j,(⟨b',off',none⟩:Addr).add j=⟨b',off'+j,none⟩:=by intro j;unfold Addr.add;split <;> simp_all
        refine .inr ⟨b',off',rfl,?_,fun i hi=>?_⟩
        ·have h1:=hc 0 (by omega)
         rw[hadd'] at h1
         exact World.block_lt_of_cell? W _ h1
        ·rw[htk k hk] at hi
         have h1:=hc i (by omega)
         rw[hadd'] at h1
         rw[h1]
         simp[List.getD,hi]
  ·rw[hln] at hk
   rw[hat k hk,htk k hk]
   obtain⟨_,q1,q2,_⟩:=hr k (by omega)
   unfold maxLen at q2
   omega
theorem zmz:Tryz.prog.cellsOf 28=4:=by kernel_rfl
theorem zmA:Tryz.prog.cellsOf 26=1:=by kernel_rfl
theorem zoM:Tryz.prog.cellsOf 22=1:=by kernel_rfl
set_option maxRecDepth 20000 in
theorem zhD{x:DataW H × List MemPlace}(h:DataW.trod enc Tryz.prog W 0 (fun _=>true) true fuel 28 vs=some x) :
  ∃ (wd:Int) (g l f:Option Addr) (gc lc fc:Nat) (cs:List (Int × Int)) (ls:List Int) (fs:List (List Int)),vs=[.int .i64 wd,.slice g cs.length gc,.slice l ls.length lc,.slice f fs.length fc]/\ScK W g l f cs ls fs/\Sp.Fits cs ls fs:=by
 obtain⟨y0,y1,y2,n,_,hl,h0,h1,h2⟩:=trod_struct3 Tryz.underlying28 h
 rw[zmz] at hl
 match vs,hl with
 | [c0,c1,c2,c3],_ =>
  simp only[zqO,zkd,zmA,List.drop,List.take] at h0 h1 h2
  obtain⟨z0,z1,n2,_,_,k0,k1⟩:=trod_struct2 Tryz.underlying24 h0
  simp only[zcv,zoM,List.drop,List.take] at k0 k1
  obtain⟨wd,e0,_⟩:=DataW.trod_int Tryz.underlying3 k0
  obtain⟨g,gc,cs,e1,hc,hm⟩:=zgq k1
  obtain⟨l,lc,ls,e2,hr,hm2⟩:=zlA h1
  obtain⟨f,fc,fs,e3,hf,hm3,hm4⟩:=zlC h2
  simp only[List.cons.injEq,and_true] at e0 e1 e2 e3
  exact⟨wd,g,l,f,gc,lc,fc,cs,ls,fs,by rw[e0,e1,e2,e3],⟨hc,hr,hf⟩,hm,hm2,hm3,hm4⟩
theorem zpJ{cs:Array Value}(h:∀ i (hi:i<cs.size),zao (zcp K) cs[i] cs[i]):zao (zcp K) (.agg cs) (.agg cs):=.agg rfl fun i h1 _=>h i h1
end
def AlK(w:World)(g l f p x:Option Addr)(cs:List (Int × Int))(ls:List Int)(fs:List (List Int))(es ns:List (Int × Int × Int)):Prop:=ScK w g l f cs ls fs/\Sp.zff w p es/\Sp.zff w x ns
theorem zqq(h:Sp.zff w a es)(τ:Nat->Question->Nat)(d:Nat):Sp.zff ((zgk (rowsOf w) w).tp τ d) a es:=by
 rcases h with h|⟨b,off,rfl,hl,hc⟩
 ·exact .inl h
 ·refine .inr ⟨b,off,rfl,by show b<(zgk (rowsOf w) w).heap.size;rw[zcP];exact hl,fun i hi=>?_⟩
  have one:∀ j (x:Int),w.cell? ⟨b,j,none⟩=some (.int .i64 x)->((zgk (rowsOf w) w).tp τ d).cell? ⟨b,j,none⟩=some (.int .i64 x):=fun j x h=>by
   have q:=zdN (rowsOf w) w ⟨b,j,none⟩
   rw[h,Option.map_some,zhC] at q
   exact q
  exact⟨one _ _ (hc i hi).1,one _ _ (hc i hi).2.1,one _ _ (hc i hi).2.2⟩
theorem zqL{p x:Option Addr}(h:AlK w g l f p x cs ls fs es ns)(τ:Nat->Question->Nat)(d:Nat):Sp.AlM ((zgk (rowsOf w) w).tp τ d) g l f p x cs ls fs es ns :=
 ⟨zra h.1 τ d,zqq h.2.1 τ d,zqq h.2.2 τ d⟩
theorem add_add(a:Addr)(m n:Nat):(a.add m).add n=a.add (m+n):=by
 unfold Addr.add
 by_cases h1:m=0
 ·subst h1;simp
 ·by_cases h2:n=0
  ·subst h2;simp
  ·simp[h1,h2,Nat.add_assoc]
section
variable{H:Type}{enc:TypeId × Value->H}{W:World}
theorem zmy:Tryz.prog.cellsOf 95=3:=by kernel_rfl
theorem zoN:Tryz.prog.cellsOf 48=1:=by kernel_rfl
theorem zoL:Tryz.prog.cellsOf 50=6:=by kernel_rfl
set_option maxRecDepth 20000 in
theorem zh2{fuel:Nat}{x:DataW H × List MemPlace}(h:DataW.trod enc Tryz.prog W 0 (fun _=>true) true fuel 95 vs=some x):∃ q:Int × Int × Int,vs=[.int .i64 q.1,.int .i64 q.2.1,.int .i64 q.2.2]:=by
 obtain⟨y0,y1,n,_,hl,h0,h1⟩:=trod_struct2 Tryz.underlying95 h
 rw[zmy] at hl
 match vs,hl with
 | [c0,c1,c2],_ =>
  simp only[zmx,zcv,List.drop,List.take] at h0 h1
  obtain⟨z0,z1,n2,_,_,k0,k1⟩:=trod_struct2 Tryz.underlying93 h1
  simp only[zcv,List.drop,List.take] at k0 k1
  obtain⟨x0,e0,_⟩:=DataW.trod_int Tryz.underlying3 h0
  obtain⟨x1,e1,_⟩:=DataW.trod_int Tryz.underlying3 k0
  obtain⟨x2,e2,_⟩:=DataW.trod_int Tryz.underlying3 k1
  simp only[List.cons.injEq,and_true] at e0 e1 e2
  exact⟨(x0,x1,x2),by rw[e0,e1,e2]⟩
set_option maxRecDepth 20000 in
theorem zdI{fuel:Nat}{x:DataW H × List MemPlace}(h:DataW.trod enc Tryz.prog W 0 (fun _=>true) true fuel 48 vs=some x) :
  ∃ a cap es,vs=[.slice a (List.length es) cap]/\Sp.zff W a es/\es.length<=9223372036854775807:=by
 rcases open_slice Tryz.underlying48 h with ⟨rfl,_⟩|⟨a,len,cap,m,n,D,Pl,rfl,_,hl,hm,hmm,_,hx⟩
 ·exact⟨none,0,[],rfl,.inl rfl,by simp⟩
 ·have hm':m=cap:=by simpa using hmm
  have each:∀ i,i<len->∃ q:Int × Int × Int,W.cell? (a.add (i * 3))=some (.int .i64 q.1)/\W.cell? (a.add (i * 3+1))=some (.int .i64 q.2.1)/\W.cell? (a.add (i * 3+2))=some (.int .i64 q.2.2):=by
   intro i hi
   obtain⟨cs',h1,h2⟩:=hx i (by omega)
   rw[zmy] at h1
   obtain⟨q,rfl⟩:=zh2 h2
   obtain⟨_,_,hc⟩:=World.cells?_some h1
   refine⟨q,?_,?_,?_⟩
   ·exact(congrArg W.cell? (add_add a (i * 3) 0)).symm.trans (hc 0 (by omega))
   ·exact(congrArg W.cell? (add_add a (i * 3) 1)).symm.trans (hc 1 (by omega))
   ·exact(congrArg W.cell? (add_add a (i * 3) 2)).symm.trans (hc 2 (by omega))
  obtain⟨q,hq⟩:=choose_lt each
  refine⟨some a,cap,(List.range len).map q,by simp,?_,by unfold maxLen at hm;simp;omega⟩
  by_cases h0:len=0
  ·subst h0;exact .inl rfl
  ·obtain⟨b,off,spot⟩:=a
   have hs:spot=none:=by simpa [Addr.add] using World.cell?_spot (hq 0 (by omega)).1
   subst hs
   have hadd:∀ j,(⟨b,off,none⟩:Addr).add j=⟨b,off+j,none⟩:=by intro j;unfold Addr.add;split <;> simp_all
   refine .inr ⟨b,off,rfl,?_,fun i hi=>?_⟩
   ·have h1:=(hq 0 (by omega)).1
    rw[hadd] at h1
    exact World.block_lt_of_cell? W _ h1
   ·have hi':i<len:=by simpa using hi
    have h1:=hq i hi'
    rw[hadd,hadd,hadd] at h1
    have hg:((List.range len).map q).getD i (0,0,0)=q i:=by simp[hi']
    rw[hg]
    exact h1
set_option maxRecDepth 20000 in
theorem zlu{d:DataW H}{pl:List MemPlace}(hv:Value.okWide Tryz.prog W .any base 50 v)(h:DataW.Trod enc Tryz.prog W 0 (fun _=>true) true 50 v d pl) :
  ∃ (wd:Int) (g l f p x:Option Addr) (gc lc fc pc xc:Nat) (cs:List (Int × Int)) (ls:List Int) (fs:List (List Int)) (es ns:List (Int × Int × Int)),v=.agg #[.int .i64 wd,.slice g cs.length gc,.slice l ls.length lc,.slice f fs.length fc,.slice p es.length pc,.slice x ns.length xc]/\AlK W g l f p x cs ls fs es ns/\Sp.zmi cs ls fs es ns/\zao (zcp (rowsOf W)) v v:=by
 unfold Value.okWide at hv
 rw[Tryz.underlying50] at hv
 obtain⟨ca,rfl,_,ts,_,_,hc⟩:=hv
 obtain⟨fuel,hf⟩:=h
 obtain⟨y0,y1,y2,n,_,hl,h0,h1,h2⟩:=trod_struct3 Tryz.underlying50 hf
 rw[zoL] at hl
 have hl7:ca.toList.length=6:=hl
 have key:∀ l:List Value,ca.toList=l->l.length=6->∃ c0 c1 c2 c3 c4 c5,l=[c0,c1,c2,c3,c4,c5]:=fun l _ hl=>by
  match l,hl with
  | [c0,c1,c2,c3,c4,c5],_=>exact⟨_,_,_,_,_,_,rfl⟩
 obtain⟨c0,c1,c2,c3,c4,c5,ec⟩:=key _ rfl hl7
 have ec':(Value.agg ca).cells.toList=[c0,c1,c2,c3,c4,c5]:=ec
 rw[ec'] at h0 h1 h2
 simp only[zoN,zmz,List.drop,List.take] at h0 h1 h2
 obtain⟨wd,g,l,f,gc,lc,fc,cs,ls,fs,e,q1,q2⟩:=zhD h0
 obtain⟨p,pc,es,e3,q3,q4⟩:=zdI h1
 obtain⟨x,xc,ns,e5,q5,q6⟩:=zdI h2
 simp only[List.cons.injEq,and_true] at e e3 e5
 obtain⟨rfl,rfl,rfl,rfl⟩:=e
 subst e3 e5
 have e2:ca=#[.int .i64 wd,.slice g cs.length gc,.slice l ls.length lc,.slice f fs.length fc,.slice p es.length pc,.slice x ns.length xc]:=by
  rw[<- Array.toArray_toList (xs:=ca),ec]
 clear ec ec' key hl7 hl h0 h1 h2
 subst e2
 refine⟨wd,g,l,f,p,x,gc,lc,fc,pc,xc,cs,ls,fs,es,ns,rfl,⟨q1,q3,q5⟩,⟨q2,q4,q6⟩,zpJ fun i hi=>?_⟩
 have hi6:i<6:=hi
 have at':i=0\/i=1\/i=2\/i=3\/i=4\/i=5:=by omega
 rcases at' with rfl|rfl|rfl|rfl|rfl|rfl
 ·exact .int _ _
 ·obtain⟨u,_,hk⟩:=hc 1 _ rfl
  exact zbe hk
 ·obtain⟨u,_,hk⟩:=hc 2 _ rfl
  exact zbe hk
 ·obtain⟨u,_,hk⟩:=hc 3 _ rfl
  exact zbe hk
 ·obtain⟨u,_,hk⟩:=hc 4 _ rfl
  exact zbe hk
 ·obtain⟨u,_,hk⟩:=hc 5 _ rfl
  exact zbe hk
end
end
section
open Go Go.Conc Go.ConcN
theorem zr5{L M:Program}{Y:FuncId->Prop}{N:Nat}(h:∀ f,X f->Y f)(hy:XOk L M Y N):XOk L M X N:=fun F f a a' c c' cs cs' R wl w Sh gs t q sl hX=>hy F f a a' c c' cs cs' R wl w Sh gs t q sl (h f hX)
theorem zro(N:Nat):XOk SqP.prog Tryz.prog (fun i=>Sq.X i=true) N:=zr5 Sq.one (zrd N)
end
namespace ExAlbumOk
open Go.ChangeShapes Go.WideShapes Go.ChangeAt Go.RowKit Go.Conc
theorem runs(wd:Int)(g l f p x:Option Addr)(gc lc fc pc xc:Nat)(cs:List (Int × Int))(ls:List Int)(fs:List (List Int))(es ns:List (Int × Int × Int))(W:World)(hM:AlK W g l f p x cs ls fs es ns)(hF:Sp.zmi cs ls fs es ns)(hV:zao (zcp (rowsOf W)) (.agg #[.int .i64 wd,.slice g cs.length gc,.slice l ls.length lc,.slice f fs.length fc,.slice p es.length pc,.slice x ns.length xc]) (.agg #[.int .i64 wd,.slice g cs.length gc,.slice l ls.length lc,.slice f fs.length fc,.slice p es.length pc,.slice x ns.length xc])) :
  ∃ n last o w' t',runNT Tryz.prog (n+1) (solo (G (Frame.enter Tryz.prog 5 #[.agg #[.int .i64 wd,.slice g cs.length gc,.slice l ls.length lc,.slice f fs.length fc,.slice p es.length pc,.slice x ns.length xc]] .normal) []) W) #[]=(.ended o w',t')/\runN Tryz.prog n (solo (G (Frame.enter Tryz.prog 5 #[.agg #[.int .i64 wd,.slice g cs.length gc,.slice l ls.length lc,.slice f fs.length fc,.slice p es.length pc,.slice x ns.length xc]] .normal) []) W)=.next last /\
   step Tryz.prog last=.ended o w'/\Go.Conc.Good Tryz.prog (fun v w'=>v=.bool true/\Below W.heap.size W w') last o w' t':=by
 refine znh (L:=SqP.prog) (M:=Tryz.prog) (K:=rowsOf W) (PostL:=fun v _=>v=.bool true) SqP.whole SqP.bodies SqP.func5 rfl (by simp[Sq.X]) (by kernel_rfl) (by kernel_rfl) (zhz zeZ) (zaz.one hV) (zro _) (fun _ _ _ _ h=>h) (fun τ d=>?_) (fun R v v' wl w' hv h hB=>?_)
 ·exact(Sp.zhf wd g l f p x gc lc fc pc xc cs ls fs es ns _ (zqL hM τ d) hF).mono fun e w' h=>⟨_,h.1,rfl⟩
 ·subst h
  exact⟨zbt hv,hB⟩
set_option maxRecDepth 100000 in
theorem lifted(os:Os)(started:os.Started)(H:Type)(enc:TypeId × Value->H) :
  ReturnsInLeavingWide {} Tryz.checked os 5 .any (Rows.fnExactAlbumOkSpec.pre6 enc Tryz.prog Tryz.f5 Rows.fnExactAlbumOkRow.domain false) (Rows.fnExactAlbumOkSpec.post enc Tryz.prog Tryz.f5 false true false false):=by
 refine returnsInLeavingWide_of_change_sized (C:=Tryz.checked) own started Tryz.func5
  (ChangeSpec.witness6 (enc:=enc) (C:=Tryz.checked) false ⟨#[],#[.agg #[.int .i64 0,.slice none 0 0,.slice none 0 0,.slice none 0 0,.slice none 0 0,.slice none 0 0]],[]⟩ 8 (by kernel_rfl) (by kernel_rfl) (by kernel_rfl) (by kernel_rfl)) ?_
 intro W base args ds gs before hval0 hW hcnd _ _
 have hval:∀(j:Nat) t v,Tryz.f5.params[j]?=some t->args[j]?=some v->Value.okWide Tryz.prog W .any base t v:=hval0
 have hW':=hW
 obtain⟨p,q,hA0,hV,rfl,hfz,hnd⟩:=hW
 have hA:DataW.TrodAll enc Tryz.prog W 0 (fun _=>true) true Tryz.f5.params.toList args.toList ds p:=hA0
 rw[Tryz.params5] at hA hval
 obtain⟨v0,vs0,d0,ds0,p0,q0,hargs,rfl,rfl,h0,r0⟩:=trodAll_cons hA
 obtain⟨rfl,rfl,rfl⟩:=trodAll_nil r0
 obtain rfl:args=#[v0]:=by cases args;simp_all
 obtain⟨rfl,rfl⟩:=trodVars_none hV
 have k0:=h0
 have lt0:∀ x∈p0,x.block<W.heap.size:=by obtain⟨m,hm⟩:=k0;exact DataW.trod_lt m _ _ _ hm
 obtain⟨wd0,g0,l0,f0,p0,x0,gc0,lc0,fc0,pc0,xc0,cs0,ls0,fs0,es0,ns0,rfl,hM0,hF0,hV0⟩:=zlu (hval 0 50 v0 rfl rfl) h0
 clear hA0 hval0
 obtain⟨M,last,o,w9,t9,r1,r2,r3,r4⟩:=runs wd0 g0 l0 f0 p0 x0 gc0 lc0 fc0 pc0 xc0 cs0 ls0 fs0 es0 ns0 W hM0 hF0 hV0
 refine⟨M,last,o,w9,t9,r1,r2,r3,r4.mono fun v ⟨he,bel⟩=>?_⟩
 subst he
 exact⟨_,_,_,[],_,[],hW',trodAll_mk1 (shut_bool Tryz.underlying4 _),(trodAll_cons_mk (Below.trod laidOut (by kernel_rfl) (of_decide_eq_true (by kernel_rfl)) k0 bel lt0) trodAll_mk0),rfl,bel.frame _,fun h=>by cases h⟩
theorem over:Rows.fnExactAlbumOkRow.holds Tryz.pinned (OpenSpec.ofChange Rows.fnExactAlbumOkSpec) :=
 OpenClaim.holds_of_wide_leaving 5 Tryz.f5 rfl rfl rfl rfl rfl rfl rfl ⟨rfl,rfl,rfl,rfl,rfl⟩ rfl rfl rfl rfl rfl (by kernel_rfl) Tryz.func5 (by kernel_rfl)
  (of_decide_eq_true (by kernel_rfl)) (by unfold Func.isWrapper;first|(rw[if_pos (by decide +kernel)];kernel_rfl)|(rw[if_neg (by decide +kernel)];exact⟨rfl,rfl⟩))
  (fun os started H enc _=>lifted os started H enc)
end ExAlbumOk
section
theorem exAlbumOk:Rows.FnExactAlbumOkSaid:=ExAlbumOk.over
#print axioms exAlbumOk
