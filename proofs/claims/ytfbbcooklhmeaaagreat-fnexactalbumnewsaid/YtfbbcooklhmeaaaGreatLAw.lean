/- Of the proof: Fo -/
import Derived.Test.YtfbbcooklhmeaaaGreatLZz
import Derived.Deep.AppendLies
import Derived.Below
set_option linter.unusedVariables false
namespace Go.Proofs.YtfbbcooklhmeaaaGreat
variable {xs:List Int} {B:Nat} {e:TypeId} {v:Value}
section
open Go Go.RowKit
set_option linter.unusedSimpArgs false
def zdQ (xs:List Int):List Value:=xs.map fun x=>.int .i64 x
def zfY (xs:List Int) (cap:Nat):Array Value:=(zdQ xs).toArray ++ Array.replicate (cap - xs.length) (.int .i64 0)
theorem zmF (xs:List Int):(zdQ xs).length=xs.length:=by simp [zdQ]
theorem zfX (xs:List Int) (cap:Nat) (h:xs.length<=cap):(zfY xs cap).size=cap:=by simp [zfY,zdQ]; omega
def zbI:Value->Nat
 | .slice _ _ c=>c
 | _=>0
def zdu (w:World) (B:Nat) (e:TypeId) (v:Value) (xs:List Int):Prop :=
 (v=.slice none 0 0/\xs=[])\/∃ g cap,v=.slice (some ⟨g,0,none⟩) xs.length cap/\B<=g/\0 < xs.length/\xs.length<=cap/\cap<=maxLen/\w.heap[g]?=some (.cells (zfY xs cap) e)
theorem zdu.below {w w':World} (h:zdu w B e v xs) (hb:Below w.heap.size w w'):zdu w' B e v xs:=by
 rcases h with h | ⟨g,cap,h1,h2,h3,h4,h5,h6⟩
 ·exact .inl h
 ·exact .inr ⟨g,cap,h1,h2,h3,h4,h5,(hb.block g (gei h6).1).trans h6⟩
theorem zdu.mono {w:World} {B':Nat} (h:zdu w B e v xs) (hB:B'<=B):zdu w B' e v xs:=by
 rcases h with h | ⟨g,cap,h1,h2,h3⟩
 ·exact .inl h
 ·exact .inr ⟨g,cap,h1,by omega,h3⟩
theorem zdu.own {w:World} (h:zdu w B e v xs):w.ownsRow B e 1 v xs.length (zdQ xs):=by
 rcases h with ⟨rfl,rfl⟩ | ⟨g,cap,rfl,h2,h3,h4,h5,h6⟩
 ·exact World.ownsRow_nil _ _ _ _
 ·refine ⟨by simp [zdQ],.inr ⟨g,cap,_,rfl,h2,h6,h4,h5,by rw [zfX _ _ h4]; omega,?_⟩⟩
  simp [zfY,zdQ]
theorem zdu.ownBlock {w:World} (h:zdu w B e v xs):∀ k,v.ownBlock=some k->B<=k/\k < w.heap.size:=h.own.lt
theorem zd8 (n:Nat):Builtin.zeroCells (Value.int .i64 0).cells n=Array.replicate n (.int .i64 0):=by
 apply Array.ext
 ·simp [Builtin.zeroCells,Value.cells]
 ·intro i h1 h2
  simp [Builtin.zeroCells,Value.cells,Nat.mod_one]
theorem zl1 {w:World} {need C:Nat} {old:Nat} (h:∀ i q,w.tape i q=C - 1) (h1:1<=C) (h2:C<=maxLen):grownCap w 1 old e=C:=by
 unfold grownCap Question.cut
 rw [h]
 unfold maxLen at h2
 simp only
 rw [Nat.mod_eq_of_lt (by omega)]
 omega
section
variable {P:Program} (w:World)
theorem zih (t ty:TypeId) (B:Nat) (e:TypeId) (i:TypeInfo) (ht:P.underlying t=some (.slice e)) (hi:P.info? e=some i) (hz:i.zero=some (.int .i64 0)) (hsize:i.size=1) (hby:i.bytes=8)
  (v:Value) (xs:List Int) (hR:zdu w B e v xs) (ad:Addr) (c:Nat) (k:Int) (hk:w.cell? ad=some (.int .i64 k)) (hxs:xs.length<=1000) (hB:B<=w.heap.size) (H:Nat) (hH:w.heap.size=H) :
  ∃ g cap w',(Builtin.append_ #[t,t] ty #[v,.slice (some ad) 1 c]).run P w=.ok (.slice (some ⟨g,0,none⟩) (xs.length + 1) cap) w'/\zdu w' B e (.slice (some ⟨g,0,none⟩) (xs.length + 1) cap) (xs ++ [k])/\w.grownBy w' v.ownBlock/\(v.ownBlock=some g\/g=H)/\g < w'.heap.size /\
   (∀ C,(∀ i q,w.tape i q=C - 1)->1<=C->C<=maxLen->xs.length + 1<=C->(v=.slice none 0 0\/zbI v=C)->cap=C):=by
 have hnews:∀ j u,([.int .i64 k]:List Value)[j]?=some u->w.cell? (ad.add j)=some u:=by
  intro j u hj
  cases j with
  | zero =>
   rw [show ad.add 0=ad by unfold Addr.add; split <;> simp_all,hk]
   simpa using hj
  | succ j=>simp at hj
 rcases hR with ⟨rfl,rfl⟩ | ⟨g,cap,rfl,h2,h3,h4,h5,h6⟩
 ·have hr:=run_append_nil (P:=P) w t ty e i (.int .i64 0) ht hi hz ad 1 c [.int .i64 k] (by rw [hsize]; rfl) hnews (by omega) (by omega) (by rw [hby]; omega)
  have hge:=grownCap_ge w 1 0 e
  have hle:=grownCap_le_maxLen w 1 0 e (by unfold maxLen; omega)
  refine ⟨w.heap.size,grownCap w 1 0 e,_,hr,.inr ⟨w.heap.size,grownCap w 1 0 e,rfl,hB,by simp,by simpa using hge,hle,?_⟩,?_,.inr hH,by simp,?_⟩
  ·have e1:(#[Value.int .i64 k] ++ Builtin.zeroCells (Value.int .i64 0).cells (grownCap w 1 0 e - 1))=zfY ([] ++ [k]) (grownCap w 1 0 e):=by
    rw [zd8]
    rfl
   rw [show ([Value.int .i64 k]:List Value).toArray=#[Value.int .i64 k] from rfl,e1]
   exact heap_alloc_new w.drew _
  ·exact ⟨rfl,rfl,rfl,by simp,fun j hj _=>heap_alloc_old w.drew _ j hj⟩
  ·intro C hC h1 h2 _ _
   exact zl1 (need:=1) hC h1 h2
 ·by_cases hroom:xs.length + 1<=cap
  ·have hr:=run_append_room (P:=P) w t ty e i ht hi g xs.length cap (zfY xs cap) h6 ad 1 c [.int .i64 k] (by rw [hsize]; rfl) hnews (by simp [Value.oneCell']) hroom (by rw [hsize,zfX _ _ h4]; simp; omega)
   have e1:((zfY xs cap).toList.take (xs.length * i.size) ++ [Value.int .i64 k] ++ (zfY xs cap).toList.drop (xs.length * i.size + ([Value.int .i64 k]:List Value).length)).toArray=zfY (xs ++ [k]) cap:=by
    rw [hsize,Nat.mul_one]
    apply Array.ext'
    have:cap - xs.length=(cap - (xs.length + 1)) + 1:=by omega
    simp only [zfY,zdQ,Array.toList_append,List.toList_toArray,Array.toList_replicate,this,List.length_append,List.length_cons,List.length_nil,List.map_append,List.map_cons,List.map_nil]
    rw [List.take_left' (by simp),List.replicate_succ,List.drop_append]
    simp
   rw [e1] at hr
   refine ⟨g,cap,_,hr,.inr ⟨g,cap,by simp,h2,by simp,by simpa using hroom,h5,setRow_heap w g _ _ e _ h6⟩,?_,.inl rfl,?_,?_⟩
   ·exact ⟨rfl,rfl,rfl,by simp [World.setRow],fun j hj hne=>setRow_other w g j _ (fun q=>hne (by simp [Value.ownBlock,q]))⟩
   ·have:=(gei h6).1
    simpa [World.setRow] using this
   ·intro C _ _ _ _ q
    rcases q with q | q
    ·cases q
    ·exact q
  ·have hcap:cap=xs.length:=by omega
   subst hcap
   have hlo:∀ j u,(zdQ xs)[j]?=some u->w.cell? ((⟨g,0,none⟩:Addr).add j)=some u:=by
    intro j u hj
    have hO:=(show zdu w B e (.slice (some ⟨g,0,none⟩) xs.length xs.length) xs from .inr ⟨g,xs.length,rfl,h2,h3,h4,h5,h6⟩).own
    exact hO.cells rfl j u hj
   have hr:=run_append_grow (P:=P) w t ty e i (.int .i64 0) ht hi hz ⟨g,0,none⟩ xs.length xs.length (zdQ xs) (by rw [hsize,zmF]; omega) hlo ad 1 c [.int .i64 k] (by rw [hsize]; rfl) hnews (by omega) (by omega) (growslice_fits_succ (by rw [hby]; omega) (by rw [hby]; omega))
   have hge:=grownCap_ge w (xs.length + 1) xs.length e
   have hle:=grownCap_le_maxLen w (xs.length + 1) xs.length e (by unfold maxLen; omega)
   refine ⟨w.heap.size,grownCap w (xs.length + 1) xs.length e,_,hr,.inr ⟨w.heap.size,_,by simp,hB,by simp,by simpa using hge,hle,?_⟩,?_,.inr hH,by simp,?_⟩
   ·have e1:(zdQ xs).toArray ++ ([Value.int .i64 k]:List Value).toArray ++ Builtin.zeroCells (Value.int .i64 0).cells (grownCap w (xs.length + 1) xs.length e - (xs.length + 1))=zfY (xs ++ [k]) (grownCap w (xs.length + 1) xs.length e):=by
     rw [zd8]
     simp [zfY,zdQ]
    rw [e1]
    exact heap_alloc_new w.drew _
   ·exact ⟨rfl,rfl,rfl,by simp,fun j hj _=>heap_alloc_old w.drew _ j hj⟩
   ·intro C _ _ _ hl q
    rcases q with q | q
    ·cases q
    ·simp only [zbI] at q
     omega
theorem zfV {ops:Array Oper} {rest:List Oper} {o:Oper} {a:Act} {Q:Exit->Act->World->Prop} (hgd:o.guard=none) (s x:Operand) (t:TypeId)
  (ho:o.op=.call { callee:=.builtin .append,args:=#[s,x],argTypes:=#[t,t] }) (B:Nat) (e:TypeId) (i:TypeInfo) (ht:P.underlying t=some (.slice e)) (hi:P.info? e=some i) (hz:i.zero=some (.int .i64 0)) (hsize:i.size=1) (hby:i.bytes=8)
  (v:Value) (xs:List Int) (hs:a.eval s=v) (hR:zdu w B e v xs) (ad:Addr) (c:Nat) (k:Int) (hx:a.eval x=.slice (some ad) 1 c) (hk:w.cell? ad=some (.int .i64 k)) (hxs:xs.length<=1000) (hB:B<=w.heap.size) (H:Nat) (hH:w.heap.size=H)
  (h:∀ g cap w',zdu w' B e (.slice (some ⟨g,0,none⟩) (xs.length + 1) cap) (xs ++ [k])->w.grownBy w' v.ownBlock->(v.ownBlock=some g\/g=H)->g < w'.heap.size->(∀ C,(∀ i q,w.tape i q=C - 1)->1<=C->C<=maxLen->xs.length + 1<=C->(v=.slice none 0 0\/zbI v=C)->cap=C)->wpList P ops Q rest (a.put o.dst (.slice (some ⟨g,0,none⟩) (xs.length + 1) cap)) w'):wpList P ops Q (o :: rest) a w :=
 wpList_plain hgd fun _ hK=>by
  obtain ⟨g,cap,w',hr,h2,h3,h4,h5,h6⟩:=zih (P:=P) w t o.type B e i ht hi hz hsize hby v xs hR ad c k hk hxs hB H hH
  unfold Oper.wp execOp
  simp only [ho,resolve,invoke,builtin,Sem.run_bind,Sem.run_pure,Result.andThen_ok,List.map_toArray,List.map_cons,List.map_nil,hs,hx,hr]
  exact hK _ _ (h g cap w' h2 h3 h4 h5 h6)
end
end
end Go.Proofs.YtfbbcooklhmeaaaGreat
