/- Of the proof: Ej -/
import Derived.Control
import Derived.Test.YtmekljoegndkkaaGreatLAf
namespace Go.Proofs.YtmekljoegndkkaaGreat
variable {a:Act} {Post:Act->World->Prop} {c:Code} {b fr fr1:Frame} {cs:List Frame} {w:World}
section
open Go Go.Conc
section
variable {L:Program} {FinP:Frame->World->Prop}
theorem zco.of_tp {cs1:List Frame} {w1:World} {τ:Nat->Question->Nat} {d:Nat} (h:zco L fr cs (w.tp τ d) fr1 cs1 w1) (hne:fr ≠ fr1\/cs ≠ cs1):zco L fr cs w fr1 cs1 w1:=by
 cases h with
 | refl=>rcases hne with q | q <;> exact absurd rfl q
 | step τ' d' es e k=>exact .step τ' d' es e k
theorem zco.ctl (h:∀ cs w,stepG L true (G fr cs) w=.go (G fr1 cs) w #[]):zco L fr cs w fr1 cs w :=
 .step w.tape w.drawn #[] (h (cs ++ [zaN L]) w) .refl
theorem zhr {k:List Item} (t:zb2 L FinP (b.at a (.code c :: k)) cs w) (τ:Nat->Question->Nat) (d:Nat) (h:c.wp L (fun e a' w'=>e=.normal/\Post a' w') a (w.tp τ d)) :
  ∃ a' w',Post a' w'/\zco L (b.at a (.code c :: k)) cs w (b.at a' k) cs w':=by
 obtain ⟨e,a',w',⟨rfl,hp⟩,hs⟩:=h b k (cs ++ [zaN L])
 obtain ⟨n,hn⟩:Steps L (lone (b.at a (.code c :: k)) (cs ++ [zaN L]) (w.tp τ d)) (lone (b.at a' k) (cs ++ [zaN L]) w'):=hs
 refine ⟨a',w',hp,(zbm n (t.tp τ d) hn).of_tp (.inl fun q=>?_)⟩
 have:(b.at a (.code c :: k)).todo=(b.at a' k).todo:=by rw [q]
 have h2:(Item.code c :: k)=k:=this
 exact absurd (congrArg List.length h2) (by simp)
theorem zo2 {k k':List Item} {id:Nat} (t:zb2 L FinP (b.at a (.code c :: k)) cs w) (τ:Nat->Question->Nat) (d:Nat) (h:c.wp L (fun e a' w'=>e=.exit id/\Post a' w') a (w.tp τ d)) (hk:exitTo id k=some k') (hl:k'.length<=k.length) :
  ∃ a' w',Post a' w'/\zco L (b.at a (.code c :: k)) cs w (b.at a' k') cs w':=by
 obtain ⟨e,a',w',⟨rfl,hp⟩,hs⟩:=h b k (cs ++ [zaN L])
 obtain ⟨n,hn⟩:Steps L (lone (b.at a (.code c :: k)) (cs ++ [zaN L]) (w.tp τ d)) (lone (b.at a' k') (cs ++ [zaN L]) w'):=hs k' hk
 refine ⟨a',w',hp,(zbm n (t.tp τ d) hn).of_tp (.inl fun q=>?_)⟩
 have:(b.at a (.code c :: k)).todo=(b.at a' k').todo:=by rw [q]
 have h2:(Item.code c :: k)=k':=this
 have h3:=congrArg List.length h2
 simp at h3
 omega
theorem zo1 {k:List Item} {c0:Frame} {Post:Value->World->Prop} (t:zb2 L FinP (b.at a (.code c :: k)) (c0 :: cs) w) (h:c.wp L (fun e a' w'=>e=.ret/\∃ v,Post v w'/\∀ todo,({ b.at a' todo with mode:=.returning }:Frame).leaving L w' (.returned v)) a w) :
  ∃ v w',Post v w'/\zco L (b.at a (.code c :: k)) (c0 :: cs) w (c0.finish v) cs w':=by
 obtain ⟨e,a',w',⟨rfl,v,hp,hl⟩,todo,hs⟩:=h b k (c0 :: cs ++ [zaN L])
 obtain ⟨n,hn⟩:Steps L (lone (b.at a (.code c :: k)) (c0 :: cs ++ [zaN L]) w) (lone { b.at a' todo with mode:=.returning } (c0 :: cs ++ [zaN L]) w'):=hs
 have d1:=zbm (cs':=c0 :: cs) n t hn
 have t1:=t.desc d1
 have hst:step L (lone { b.at a' todo with mode:=.returning } (c0 :: (cs ++ [zaN L])) w')=.next (lone (c0.finish v) (cs ++ [zaN L]) w'):=step_leave_returned (hl todo)
 refine ⟨v,w',hp,d1.trans (zbm 1 t1 ?_)⟩
 simp only [runN,List.cons_append,hst]
end
end
end Go.Proofs.YtmekljoegndkkaaGreat
