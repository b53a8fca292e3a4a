/- Of the proof: SqN -/
import Derived.Test.YtmekljoegndkkaaGreatLAb
namespace Go.Proofs.YtmekljoegndkkaaGreat
section
open Go
noncomputable abbrev SqN.prog:Program:=SqG.prog Sq.altN
abbrev SqN.func19:=@SqG.func19 Sq.altN
abbrev SqN.func20:=@SqG.func20 Sq.altN
abbrev SqN.func23:=@SqG.func23 Sq.altN
abbrev SqN.func43:=@SqG.func43 Sq.altN
abbrev SqN.func44:=@SqG.func44 Sq.altN
abbrev SqN.func45:=@SqG.func45 Sq.altN
abbrev SqN.func74:=@SqG.func74 Sq.altN
end
end Go.Proofs.YtmekljoegndkkaaGreat
