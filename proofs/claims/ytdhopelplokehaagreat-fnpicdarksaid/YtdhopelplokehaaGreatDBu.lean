/- Of the proof: Qv -/
import Derived.Test.YtdhopelplokehaaGreatDBs
namespace Go.Proofs.YtdhopelplokehaaGreat
section
open Go Go.Conc Go.ConcN
theorem xok_or {L M:Program} {X Y Z:FuncId->Prop} {N:Nat} (h:∀ f,X f->Y f\/Z f) (hy:XOk L M Y N) (hz:XOk L M Z N):XOk L M X N:=fun F f a a' c c' cs cs' R wl w Sh gs t q sl hX=>(h f hX).elim (hy F f a a' c c' cs cs' R wl w Sh gs t q sl) (hz F f a a' c c' cs cs' R wl w Sh gs t q sl)
theorem xok_all (N:Nat):XOk SqP.prog Tryz.prog (fun i=>Sq.X i=true) N:=xok_or Sq.one (pic_xok1 N) (to_xok1 N)
end
end Go.Proofs.YtdhopelplokehaaGreat
