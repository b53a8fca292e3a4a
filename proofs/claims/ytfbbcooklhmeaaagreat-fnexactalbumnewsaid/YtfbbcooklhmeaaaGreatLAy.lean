/- Of the proof: PJu -/
import Derived.Laws.CopyOwn
import Derived.Test.YtfbbcooklhmeaaaGreatLAc
namespace Go.Proofs.YtfbbcooklhmeaaaGreat
variable {cs:List (Int × Int)} {P:Program} {w:World}
namespace Sp
variable {aLt:Nat->Func->Func}
open Go.RowKit
theorem zl0 {ops:Array Oper} {rest:List Oper} {o:Oper} {a:Act} {Q:Exit->Act->World->Prop} (hgd:o.guard=none) (d s:Operand) (dT sT:TypeId)
  (ho:o.op=.call { callee:=.builtin .copy,args:=#[d,s],argTypes:=#[dT,sT] }) (e:TypeId) (hu:P.underlying dT=some (.slice e)) (hsz:(P.info? e).map (·.size)=some 2)
  (B g n cap:Nat) (xs:List Value) (ad:Addr) (sCap:Nat) (hd:a.eval d=.slice (some ⟨g,0,none⟩) n cap) (hs:a.eval s=.slice (some ad) n sCap)
  (hown:w.ownsRow B e 2 (.slice (some ⟨g,0,none⟩) n cap) n xs) (cs:List Value) (hn:cs.length=n * 2)
  (hsrc:∀ j v,cs[j]?=some v->w.cell? (ad.add j)=some v) (h1:∀ v ∈ cs,v.oneCell'=true)
  (h:∀ w',w'.ownsRow B e 2 (.slice (some ⟨g,0,none⟩) n cap) n cs->w.grownBy w' (some g)->wpList P ops Q rest (a.put o.dst (goInt n)) w'):wpList P ops Q (o :: rest) a w:=by
 obtain ⟨hx,hr⟩:=hown
 rcases hr with ⟨h0,_⟩ | ⟨g',cap',cur,hv,hB,hg,hc1,hc2,hc3,htake⟩
 ·simp at h0
 ·simp only [Value.slice.injEq,Option.some.injEq,Addr.mk.injEq,and_true,true_and] at hv
  obtain ⟨rfl,rfl⟩:=hv
  refine wpList_plain hgd fun K hK=>?_
  have hl:=run_loadCells_list (P:=P) w ad cs hsrc
  have hfit:n * 2<=cur.size:=by rw [hc3]; exact Nat.mul_le_mul_right 2 hc1
  have hst:=run_storeCells_at P g 0 e cs 0 cur w hg (by simp [hn]; exact hfit) h1
  have hrun:(Builtin.copy_ #[dT,sT] o.type #[.slice (some ⟨g,0,none⟩) n cap,.slice (some ad) n sCap]).run P w=.ok (goInt n) (w.setRow g (cur.toList.take 0 ++ cs ++ cur.toList.drop (0 + cs.length)).toArray):=by
   cases hq:P.info? e with
   | none=>simp [hq] at hsz
   | some i =>
    have hi:i.size=2:=by simpa [hq] using hsz
    rw [hn] at hl
    simp only [Nat.add_zero] at hst
    simp [Builtin.copy_,run_underlying hu,Builtin.lenOf,Builtin.firstCells,sizeOf,typeInfo,hq,hi,hl,hst]
  unfold Oper.wp
  simp only [execOp,ho]
  simp [resolve,invoke,builtin,hd,hs,hrun,Result.andThen]
  refine hK _ _ ?_
  have hset:=setRow_heap w g cur (cs ++ cur.toList.drop cs.length).toArray e (0,0) hg
  have hlen:(cs ++ cur.toList.drop cs.length).length=cap * 2:=by
   have hcl:cur.toList.length=cap * 2:=by simpa using hc3
   simp only [List.length_append,List.length_drop]
   rw [hcl,hn]
   have:=Nat.mul_le_mul_right 2 hc1
   omega
  have:=h (w.setRow g (cs ++ cur.toList.drop cs.length).toArray) ⟨hn,Or.inr ⟨g,cap,_,rfl,hB,hset,hc1,hc2,by simpa using hlen,by rw [<- hn]; simp⟩⟩
   ⟨rfl,rfl,rfl,by simp [World.setRow],fun k _ hk=>setRow_other w g k _ (fun ek=>hk (by simp [ek]))⟩
  simpa using this
end Sp
namespace Sp
variable {aLt:Nat->Func->Func}
open Go.RowKit
theorem Own.other {B g n cap:Nat} (h:Own w B (.slice (some ⟨g,0,none⟩) n cap) cs) {p:Addr} (hne:g ≠ p.block) (u:Value):Own (w.setCell p u) B (.slice (some ⟨g,0,none⟩) n cap) cs:=by
 obtain ⟨h1,h2⟩:=h
 refine ⟨h1,?_⟩
 rcases h2 with ⟨h2,_⟩ | ⟨g',cap',cur,hv,hg,hh,r⟩
 ·simp at h2
 ·have hv':=hv
  simp only [Value.slice.injEq,Option.some.injEq,Addr.mk.injEq,and_true] at hv'
  exact Or.inr ⟨g',cap',cur,hv,hg,by rw [Below.heap_setCell _ _ _ _ (by rw [<- hv'.1]; exact hne)]; exact hh,r⟩
theorem zoR:((SqG.prog aLt).info? 59).map (·.size)=some 2:=by kernel_rfl
theorem zjX (cs:List (Int × Int)):∀ v ∈ flat cs,v.oneCell'=true:=by
 intro v hv
 simp only [flat,List.mem_flatMap,List.mem_cons,List.not_mem_nil,or_false] at hv
 obtain ⟨c,_,rfl | rfl⟩:=hv <;> rfl
theorem zhH {b off:Nat} (h:∀ i,i < cs.length->w.cell? ⟨b,off + i * 2,none⟩=some (.int .i64 (cs.getD i (0,0)).1)/\w.cell? ⟨b,off + i * 2 + 1,none⟩=some (.int .i64 (cs.getD i (0,0)).2)) :
  ∀ j v,(flat cs)[j]?=some v->w.cell? ((⟨b,off,none⟩:Addr).add j)=some v:=by
 intro j v hv
 have hadd:(⟨b,off,none⟩:Addr).add j=⟨b,off + j,none⟩:=by unfold Addr.add; split <;> simp_all
 rw [hadd]
 have hj:j < cs.length * 2:=by
  rw [<- zeM]
  exact (List.getElem?_eq_some_iff.1 hv).1
 have hi:j / 2 < cs.length:=by omega
 have hf:=zgW cs (j / 2) hi
 have hc:=h (j / 2) hi
 rcases (show j=j / 2 * 2\/j=j / 2 * 2 + 1 by omega) with e | e
 ·rw [<- e] at hf hc
  rw [hf.1] at hv
  rw [hc.1]; exact hv
 ·rw [<- e] at hf
  rw [hf.2] at hv
  rw [Nat.add_assoc,<- e] at hc
  rw [hc.2]; exact hv
end Sp
end Go.Proofs.YtfbbcooklhmeaaaGreat
