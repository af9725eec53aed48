import Derived.Test.YtniadajcdldfkaaDoorFrame
import Derived.Test.YtniadajcdldfkaaDoorTake
namespace Go.Proofs.YtniadajcdldfkaaDoor

theorem rows_card : Rows.RowsCardSaid := card_of take_does

#print axioms rows_card
end Go.Proofs.YtniadajcdldfkaaDoor
