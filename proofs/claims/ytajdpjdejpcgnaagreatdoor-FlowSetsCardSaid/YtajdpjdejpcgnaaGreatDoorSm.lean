import Derived.Test.YtajdpjdejpcgnaaGreatDoorRm
namespace Go.Eng
open Go Go.RowKit
def below(x:BitVec 128)(k j:Nat):Bool:=decide (j<k)&&x.getLsbD j
end Go.Eng
