import Derived.Test.YtnpfimbabnmpbaaDoorFrame
import Derived.Test.YtnpfimbabnmpbaaDoorTake
namespace Go.Proofs.YtnpfimbabnmpbaaDoor

theorem rows_card : Rows.RowsCardSaid := card_of take_does

#print axioms rows_card
end Go.Proofs.YtnpfimbabnmpbaaDoor
