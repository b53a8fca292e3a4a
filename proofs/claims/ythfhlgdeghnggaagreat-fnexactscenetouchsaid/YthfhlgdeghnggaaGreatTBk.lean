/- Part. -/
import Derived.Lib.SmallJoins
import Derived.Deep.SlicePairs
import Derived.Deep.Matrix
import Derived.Test.YthfhlgdeghnggaaGreatTBj
namespace Go.Proofs.YthfhlgdeghnggaaGreat
variable{X:FuncId->Prop}{cs:List (Int × Int)}{fs:List (List Int)}{ls xs:List Int}{vs:List Value}{base n:Nat}{K:Nat->Prop}{a:Option Addr}{u:TypeId}{v:Value}{Post PostL:Value->World->Prop}{w:World}
section
open Go Go.Conc Go.ConcN
open Go.RowKit
variable{L M:Program}
open Classical in
noncomputable def zqg(K:Nat->Prop)(v:Value):Value:=if zao (zcu K) v v then v else zr5 v
theorem zqh(hx:zdy=false)(v:Value):zao (zcu K) (zqg K v) v:=by
 unfold zqg
 split
 ·assumption
 ·exact zk9 hx (ze9 K) v
theorem zk8(k:IntKind)(n:Int):zqg K (.int k n)=.int k n:=by
 unfold zqg
 rw[if_pos (.int k n)]
noncomputable def zhv(K:Nat->Prop)(w:World):World:={ w with heap:=w.heap.map fun|.cells c e _=>.cells (c.map (zqg K)) e (0,c.size)|.map _ _=>.coro none|o=>o }
theorem zfD(K:Nat->Prop)(w:World)(a:Addr):(zhv K w).cell? a=(w.cell? a).map (zqg K):=by
 unfold World.cell? zhv
 simp only[Array.getElem?_map]
 cases w.heap[a.block]? with
 | none=>rfl
 | some o =>
  cases o with
  | cells c e f =>
   simp only[Option.map_some]
   split
   ·rfl
   ·simp
  | _=>rfl
theorem zdZ(K:Nat->Prop)(w:World):(zhv K w).heap.size=w.heap.size:=by simp[zhv]
theorem zpF(h:Closed K w):zbb w.heap.size (zcu K) (zhv K w) w:=by
 refine⟨ze9 K,?_,rfl,rfl,by rw[zdZ];exact Nat.le_refl _⟩
 rintro b c ⟨rfl,hb⟩
 rcases h b hb with ⟨x,e,f,hx,hxo⟩|⟨ho,⟨a,l,hx,hr⟩|⟨c,n,hx⟩⟩
 ·exact⟨.cells (x.map (zqg K)) e (0,x.size),.cells x e f,by simp[zhv,hx],hx,.cells ⟨by simp,fun i h1 h2=>by simp only[Array.getElem_map];exact zqh hxo _⟩ (fun _ i hi=>⟨Nat.zero_le _,by simpa using hi⟩) (fun q=>absurd (gei hx).1 q)⟩
 ·exact⟨.number a l,.number a l,by simp[zhv,hx],hx,.other (.number hr) (fun _ _ q=>by cases q)⟩
 ·exact⟨.coro none,.map c n,by simp[zhv,hx],hx,.other .hid (fun _ _ q=>by cases q)⟩
def rowsOf(w:World):Nat->Prop:=fun b=>∃ c e f,w.heap[b]?=some (.cells c e f)
theorem zhN(hx:zdy=false):Closed (rowsOf w) w:=fun _ ⟨c,e,f,h⟩=>.inl ⟨c,e,f,h,hx⟩
theorem znP[T:zaB L M][zaB L L](W:Whole L)(B:Bodies L M X){f:FuncId}{fn:Func}(hf:L.funcs[f]?=some fn)(hb:fn.body.isSome=true)(hnX:¬ X f)(hres:zbM fn=true)(hin:M.inits.idxOf? f=none){a:Array Value}(hcl:Closed K w)(ha:zaz (zcu K) a a)(hX:XOk L M X w.heap.size)(hP:∀ v w τ d,PostL v w->PostL v (w.tp τ d))(hC:∀ τ d,Calls L f a ((zhv K w).tp τ d) fun e w'=>∃ v,e=.returned v/\PostL v w')(hpost:∀ R v v' wl w',zao R v v'->PostL v wl->Below w.heap.size w w'->Post v' w') :
  ∃ n last o w' t',runNT M (n+1) (solo (G (Frame.enter M f a .normal) []) w) #[]=(.ended o w',t')/\runN M n (solo (G (Frame.enter M f a .normal) []) w)=.next last/\step M last=.ended o w'/\Go.Conc.Good M Post last o w' t':=by
 have hent:zgv L (zcu K) (Frame.enter L f a .normal) (Frame.enter M f a .normal):=zdV B hf hb hnX ha
 have hrel:=zpF hcl
 have hG:=zd0 hf hres hP hC
 have hT:=zdd W (zr1.tp (L:=L) (f:=f) (Post:=PostL)) hG ⟨_,_,_,[],_,hent,.nil,hrel⟩
 rw[solo_eq_crowd]
 refine zpU B W.zero hX (w0:=w) (Post:=Post) ?_ hT (zcu K) _ [] w (fun _=>False) #[G (Frame.enter M f a .normal) []] #[] (fun _=>0) none hent .nil (by
  have e:(zhv K w).tp w.tape w.drawn=zhv K w:=rfl
  rw[e]
  exact hrel) (zrn M _ w) rfl (fun _ _ _ h=>h) (fun b c hbc hn=>by rw[<- hbc.1];exact hn) (fun _ h=>h.elim) (Nat.le_refl _) (Below.refl _ _)
 rintro R fr fr' wl w1 ⟨ho,t,rfl,ht⟩ hF hBl
 obtain⟨e,fn1,hfn1,hp⟩:=hF wl.tape wl.drawn
 rw[hf] at hfn1
 cases hfn1
 refine⟨fn,by show M.funcs[fr.fn]?=some fn;rw[e];exact B.same f fn hf hb hnX,hres,by show M.inits.idxOf? fr.fn=none;rw[e];exact hin,?_⟩
 exact hpost R _ _ wl w1 (ziS rfl ht) (hp wl.tape wl.drawn) hBl
end
section
open Go.ChangeShapes Go.WideShapes Go.ChangeAt Go.RowKit Go.Joins Go.Deep
theorem own:ownKnob Tryz.prog.godebug=none:=by kernel_rfl
theorem laidOut:laidOutB Tryz.prog=true:=by kernel_rfl
theorem zro:Tryz.prog.cellsOf 43=2:=by kernel_rfl
theorem zrp:Tryz.prog.cellsOf 24=2:=by kernel_rfl
theorem zdT:Tryz.prog.cellsOf 3=1:=by kernel_rfl
theorem zgy{H:Type}{enc:TypeId × Value->H}{W:World}{fuel:Nat}{x:DataW H × List MemPlace}(h:DataW.trod enc Tryz.prog W 0 (fun _=>true) true fuel 22 vs=some x) :
  ∃ a cap cs,vs=[.slice a (List.length cs) cap]/\Sp.zak W a cs/\cs.length<=9223372036854775807:=by
 rcases open_slice_pairs Tryz.underlying22 Tryz.underlying43 zro rfl rfl zdT zdT h with ⟨rfl,_⟩|⟨a,len,cap,m,n,V0,V1,D0,D1,P0,P1,rfl,_,hl,hm,hmm,_,hc⟩
 ·exact⟨none,0,[],rfl,Or.inl rfl,by simp⟩
 ·have hm':m=cap:=by simpa using hmm
  have each:∀ i,i<len->∃ q:Int × Int,W.cell? (a.add (i * 2))=some (.int .i64 q.1)/\W.cell? (a.add (i * 2+1))=some (.int .i64 q.2):=by
   intro i hi
   obtain⟨e0,e1,t0,t1⟩:=hc i (by omega)
   obtain⟨x0,h0,_⟩:=DataW.trod_int Tryz.underlying3 t0
   obtain⟨x1,h1,_⟩:=DataW.trod_int Tryz.underlying3 t1
   simp only[List.cons.injEq,and_true] at h0 h1
   rw[h0] at e0
   rw[h1] at e1
   exact⟨(x0,x1),e0,e1⟩
  obtain⟨q,hq⟩:=choose_lt each
  refine⟨some a,cap,(List.range len).map q,by simp,?_,by unfold maxLen at hm;simp;omega⟩
  by_cases h0:len=0
  ·subst h0;exact Or.inl rfl
  ·obtain⟨b,off,spot⟩:=a
   have hs:spot=none:=by simpa [Addr.add] using World.cell?_spot (hq 0 (by omega)).1
   subst hs
   have hadd:∀ j,(⟨b,off,none⟩:Addr).add j=⟨b,off+j,none⟩:=by intro j;unfold Addr.add;split <;> simp_all
   refine Or.inr ⟨b,off,rfl,?_,fun i hi=>?_⟩
   ·have h1:=(hq 0 (by omega)).1
    rw[hadd] at h1
    exact World.block_lt_of_cell? W _ h1
   ·have hi':i<len:=by simpa using hi
    have h1:=hq i hi'
    rw[hadd,hadd] at h1
    have hg:((List.range len).map q).getD i (0,0)=q i:=by simp[hi']
    rw[hg]
    exact h1
theorem zoj{a:Addr}(h:w.cell? a=some v):rowsOf w a.block:=by
 unfold World.cell? at h
 cases hb:w.heap[a.block]? with
 | none=>simp[hb] at h
 | some x =>
  cases x with
  | cells c e f=>exact⟨c,e,f,hb⟩
  | _=>simp[hb] at h
theorem zmg{c:Nat}(hn:n<=c)(h:∀ x,a=some x->0<c->rowsOf w x.block):zao (zcu (rowsOf w)) (.slice a n c) (.slice a n c):=by
 cases a with
 | none=>exact .nilSlice _ _
 | some x =>
  rcases Nat.eq_zero_or_pos c with rfl|hc
  ·obtain rfl:n=0:=by omega
   exact .empty _ _
  ·exact .slice _ _ ⟨⟨rfl,h x rfl hc⟩,rfl,rfl⟩
theorem zom(h:zao (zcu K) v v):zqg K v=v:=by
 unfold zqg
 rw[if_pos h]
def R2K(w:World)(a:Option Addr)(fs:List (List Int)):Prop:=fs=[]\/∃ b off,a=some ⟨b,off,none⟩/\b<w.heap.size/\∀ k,k<fs.length->∃ a' c',w.cell? ⟨b,off+k,none⟩=some (.slice a' (fs.getD k []).length c')/\zao (zcu (rowsOf w)) (.slice a' (fs.getD k []).length c') (.slice a' (fs.getD k []).length c')/\Sp.zcP w a' (fs.getD k [])
theorem zq5(h:Sp.zcP w a xs)(τ:Nat->Question->Nat)(d:Nat):Sp.zcP ((zhv (rowsOf w) w).tp τ d) a xs:=by
 rcases h with h|⟨b,off,rfl,hl,hc⟩
 ·exact .inl h
 ·refine .inr ⟨b,off,rfl,by show b<(zhv (rowsOf w) w).heap.size;rw[zdZ];exact hl,fun i hi=>?_⟩
  have q:=zfD (rowsOf w) w ⟨b,off+i,none⟩
  rw[hc i hi,Option.map_some,zk8] at q
  exact q
theorem zst(h:R2K w a fs)(τ:Nat->Question->Nat)(d:Nat):Sp.zde ((zhv (rowsOf w) w).tp τ d) a fs:=by
 rcases h with h|⟨b,off,rfl,hl,hc⟩
 ·exact .inl h
 ·refine .inr ⟨b,off,rfl,by show b<(zhv (rowsOf w) w).heap.size;rw[zdZ];exact hl,fun k hk=>?_⟩
  obtain⟨a',c',q1,q2,q3⟩:=hc k hk
  refine⟨a',c',?_,zq5 q3 τ d⟩
  have q:=zfD (rowsOf w) w ⟨b,off+k,none⟩
  rw[q1,Option.map_some,zom q2] at q
  exact q
theorem zlz(h:Sp.zak w a cs)(τ:Nat->Question->Nat)(d:Nat):Sp.zak ((zhv (rowsOf w) w).tp τ d) a cs:=by
 rcases h with h|⟨b,off,rfl,hl,hc⟩
 ·exact .inl h
 ·refine .inr ⟨b,off,rfl,by show b<(zhv (rowsOf w) w).heap.size;rw[zdZ];exact hl,fun i hi=>?_⟩
  have one:∀ j (x:Int),w.cell? ⟨b,j,none⟩=some (.int .i64 x)->((zhv (rowsOf w) w).tp τ d).cell? ⟨b,j,none⟩=some (.int .i64 x):=fun j x h=>by
   have q:=zfD (rowsOf w) w ⟨b,j,none⟩
   rw[h,Option.map_some,zk8] at q
   exact q
  exact⟨one _ _ (hc i hi).1,one _ _ (hc i hi).2⟩
def ScK(w:World)(g l f:Option Addr)(cs:List (Int × Int))(ls:List Int)(fs:List (List Int)):Prop:=Sp.zak w g cs/\Sp.zcP w l ls/\R2K w f fs
theorem zrM{g l f:Option Addr}(h:ScK w g l f cs ls fs)(τ:Nat->Question->Nat)(d:Nat):Sp.ScM ((zhv (rowsOf w) w).tp τ d) g l f cs ls fs :=
 ⟨zlz h.1 τ d,zq5 h.2.1 τ d,zst h.2.2 τ d⟩
set_option maxRecDepth 20000 in
theorem zfv{W:World}{cap:Nat}{ad:Addr}(hk:Cell.okWide Tryz.prog W .any base u (.slice (some ad) n cap)):rowsOf W ad.block/\n<=cap:=by
 have hk':Cell.ok Tryz.prog W .any base u (.slice (some ad) n cap):=by
  revert hk
  unfold Cell.okWide
  cases Tryz.prog.underlying u with
  | none=>exact id
  | some d=>cases d <;> exact id
 unfold Cell.ok at hk'
 cases hu:Tryz.prog.underlying u with
 | none=>rw[hu] at hk';exact hk'.elim
 | some d =>
  rw[hu] at hk'
  cases d with
  | slice e =>
   obtain⟨hn,_,_,_,row,cells,hs,_⟩:=hk'
   refine⟨?_,hn⟩
   unfold World.shape? at hs
   cases hb:W.heap[ad.block]? with
   | none=>rw[hb] at hs;cases hs
   | some o =>
    rw[hb] at hs
    cases o with
    | cells c e f=>exact⟨c,e,f,hb⟩
    | _=>cases hs
  | _=>exact hk'.elim
set_option maxRecDepth 20000 in
theorem zco{W:World}{cap:Nat}(hk:Cell.okWide Tryz.prog W .any base u (.slice a n cap)):zao (zcu (rowsOf W)) (.slice a n cap) (.slice a n cap):=by
 cases a with
 | none=>exact .nilSlice _ _
 | some ad=>exact .slice _ _ ⟨⟨rfl,(zfv hk).1⟩,rfl,rfl⟩
section
variable{H:Type}{enc:TypeId × Value->H}{W:World}{fuel:Nat}
set_option maxRecDepth 20000 in
theorem zl4{x:DataW H × List MemPlace}(h:DataW.trod enc Tryz.prog W 0 (fun _=>true) true fuel 25 vs=some x) :
  ∃ a cap xs,vs=[.slice a (List.length xs) cap]/\Sp.zcP W a xs/\xs.length<=9223372036854775807:=by
 rcases open_ints Tryz.underlying25 Tryz.underlying3 zdT h with ⟨rfl,_⟩|⟨x,len,cap,zs,rfl,_,hl,hm,hz,_,hcell,_⟩
 ·exact⟨none,0,[],rfl,.inl rfl,by simp⟩
 ·have hzl:zs.length=cap:=by simpa using hz
  have hln:(zs.take len).length=len:=by simp;omega
  refine⟨some x,cap,zs.take len,by rw[hln],?_,by rw[hln];unfold maxLen at hm;omega⟩
  by_cases h0:len=0
  ·exact .inl (by rw[h0];simp)
  ·obtain⟨b,off,spot⟩:=x
   have hs:spot=none:=by simpa [Addr.add] using World.cell?_spot (hcell 0 (by omega))
   subst hs
   have hadd:∀ j,(⟨b,off,none⟩:Addr).add j=⟨b,off+j,none⟩:=by intro j;unfold Addr.add;split <;> simp_all
   refine .inr ⟨b,off,rfl,?_,fun i hi=>?_⟩
   ·have h1:=hcell 0 (by omega)
    rw[hadd] at h1
    exact World.block_lt_of_cell? W _ h1
   ·rw[hln] at hi
    have h1:=hcell i (by omega)
    rw[hadd] at h1
    rw[h1]
    simp[List.getD,hi]
theorem zkC:Tryz.prog.cellsOf 25=1:=by kernel_rfl
set_option maxRecDepth 20000 in
theorem zl6{x:DataW H × List MemPlace}(h:DataW.trod enc Tryz.prog W 0 (fun _=>true) true fuel 26 vs=some x) :
  ∃ a cap fs,vs=[.slice a (List.length fs) cap]/\R2K W a fs/\fs.length<=9223372036854775807/\∀ k,k<fs.length->(fs.getD k []).length<=9223372036854775807:=by
 rcases open_int_rows Tryz.underlying26 Tryz.underlying25 Tryz.underlying3 zkC zdT h with ⟨rfl,_⟩|⟨a,len,cap,A,L,C,Z,rfl,_,hl,hm,_,hr⟩
 ·exact⟨none,0,[],rfl,.inl rfl,by simp,fun k hk=>by simp at hk⟩
 ·have hln:((List.range len).map fun r=>(Z r).take (L r)).length=len:=by simp
  have hat:∀ k,k<len->((List.range len).map fun r=>(Z r).take (L r)).getD k []=(Z k).take (L k):=fun k hk=>by simp[hk]
  have htk:∀ k,k<len->((Z k).take (L k)).length=L k:=fun k hk=>by
   obtain⟨_,q1,_,q3,_⟩:=hr k (by omega)
   simp
   omega
  refine⟨some a,cap,(List.range len).map fun r=>(Z r).take (L r),by rw[hln],?_,by rw[hln];unfold maxLen at hm;omega,fun k hk=>?_⟩
  ·by_cases h0:len=0
   ·exact .inl (by rw[h0];simp)
   ·obtain⟨b,off,spot⟩:=a
    have hs:spot=none:=by simpa [Addr.add] using World.cell?_spot (hr 0 (by omega)).1
    subst hs
    have hadd:∀ j,(⟨b,off,none⟩:Addr).add j=⟨b,off+j,none⟩:=by intro j;unfold Addr.add;split <;> simp_all
    refine .inr ⟨b,off,rfl,?_,fun k hk=>?_⟩
    ·have h1:=(hr 0 (by omega)).1
     rw[hadd] at h1
     exact World.block_lt_of_cell? W _ h1
    ·rw[hln] at hk
     obtain⟨q0,q1,q2,q3,_,q5,q6⟩:=hr k (by omega)
     rw[hadd] at q0
     rw[hat k hk,htk k hk]
     refine⟨A k,C k,q0,zmg q1 fun x e hc=>?_,?_⟩
     ·have h1:=(q6 x e).2 0 hc
      have:=zoj h1
      unfold Addr.add at this
      split at this <;> exact this
     ·by_cases hL:L k=0
      ·exact .inl (by rw[hL];simp)
      ·cases hA:A k with
       | none=>have:=q5 hA;omega
       | some x =>
        have hc:=(q6 x hA).2
        obtain⟨b',off',spot'⟩:=x
        have hs':spot'=none:=by simpa [Addr.add] using World.cell?_spot (hc 0 (by omega))
        subst hs'
        have hadd':∀ j,(⟨b',off',none⟩:Addr).add j=⟨b',off'+j,none⟩:=by intro j;unfold Addr.add;split <;> simp_all
        refine .inr ⟨b',off',rfl,?_,fun i hi=>?_⟩
        ·have h1:=hc 0 (by omega)
         rw[hadd'] at h1
         exact World.block_lt_of_cell? W _ h1
        ·rw[htk k hk] at hi
         have h1:=hc i (by omega)
         rw[hadd'] at h1
         rw[h1]
         simp[List.getD,hi]
  ·rw[hln] at hk
   rw[hat k hk,htk k hk]
   obtain⟨_,q1,q2,_⟩:=hr k (by omega)
   unfold maxLen at q2
   omega
theorem zrq:Tryz.prog.cellsOf 28=4:=by kernel_rfl
theorem zm7:Tryz.prog.cellsOf 26=1:=by kernel_rfl
theorem zpj:Tryz.prog.cellsOf 22=1:=by kernel_rfl
set_option maxRecDepth 20000 in
theorem zhQ{x:DataW H × List MemPlace}(h:DataW.trod enc Tryz.prog W 0 (fun _=>true) true fuel 28 vs=some x) :
  ∃ (wd:Int) (g l f:Option Addr) (gc lc fc:Nat) (cs:List (Int × Int)) (ls:List Int) (fs:List (List Int)),vs=[.int .i64 wd,.slice g cs.length gc,.slice l ls.length lc,.slice f fs.length fc]/\ScK W g l f cs ls fs/\Sp.Fits cs ls fs:=by
 obtain⟨y0,y1,y2,n,_,hl,h0,h1,h2⟩:=trod_struct3 Tryz.underlying28 h
 rw[zrq] at hl
 match vs,hl with
 | [c0,c1,c2,c3],_ =>
  simp only[zrp,zkC,zm7,List.drop,List.take] at h0 h1 h2
  obtain⟨z0,z1,n2,_,_,k0,k1⟩:=trod_struct2 Tryz.underlying24 h0
  simp only[zdT,zpj,List.drop,List.take] at k0 k1
  obtain⟨wd,e0,_⟩:=DataW.trod_int Tryz.underlying3 k0
  obtain⟨g,gc,cs,e1,hc,hm⟩:=zgy k1
  obtain⟨l,lc,ls,e2,hr,hm2⟩:=zl4 h1
  obtain⟨f,fc,fs,e3,hf,hm3,hm4⟩:=zl6 h2
  simp only[List.cons.injEq,and_true] at e0 e1 e2 e3
  exact⟨wd,g,l,f,gc,lc,fc,cs,ls,fs,by rw[e0,e1,e2,e3],⟨hc,hr,hf⟩,hm,hm2,hm3,hm4⟩
theorem zqk{cs:Array Value}(h:∀ i (hi:i<cs.size),zao (zcu K) cs[i] cs[i]):zao (zcu K) (.agg cs) (.agg cs):=.agg rfl fun i h1 _=>h i h1
set_option maxRecDepth 20000 in
theorem zlY{d:DataW H}{p:List MemPlace}(hv:Value.okWide Tryz.prog W .any base 28 v)(h:DataW.Trod enc Tryz.prog W 0 (fun _=>true) true 28 v d p) :
  ∃ (wd:Int) (g l f:Option Addr) (gc lc fc:Nat) (cs:List (Int × Int)) (ls:List Int) (fs:List (List Int)),v=.agg #[.int .i64 wd,.slice g cs.length gc,.slice l ls.length lc,.slice f fs.length fc]/\ScK W g l f cs ls fs/\Sp.Fits cs ls fs/\zao (zcu (rowsOf W)) v v:=by
 unfold Value.okWide at hv
 rw[Tryz.underlying28] at hv
 obtain⟨ca,rfl,_,ts,_,_,hc⟩:=hv
 obtain⟨fuel,hf⟩:=h
 obtain⟨wd,g,l,f,gc,lc,fc,cs,ls,fs,e,h1,h2⟩:=zhQ hf
 have e2:ca=#[.int .i64 wd,.slice g cs.length gc,.slice l ls.length lc,.slice f fs.length fc]:=by
  have:ca.toList=[.int .i64 wd,.slice g cs.length gc,.slice l ls.length lc,.slice f fs.length fc]:=e
  rw[<- Array.toArray_toList (xs:=ca),this]
 subst e2
 refine⟨wd,g,l,f,gc,lc,fc,cs,ls,fs,rfl,h1,h2,zqk fun i hi=>?_⟩
 have hi4:i<4:=hi
 have at':i=0\/i=1\/i=2\/i=3:=by omega
 rcases at' with rfl|rfl|rfl|rfl
 ·exact .int _ _
 ·obtain⟨u,_,hk⟩:=hc 1 _ rfl
  exact zco hk
 ·obtain⟨u,_,hk⟩:=hc 2 _ rfl
  exact zco hk
 ·obtain⟨u,_,hk⟩:=hc 3 _ rfl
  exact zco hk
