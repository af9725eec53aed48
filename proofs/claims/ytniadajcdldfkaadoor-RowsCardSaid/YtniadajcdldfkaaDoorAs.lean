import Derived.Test.YtniadajcdldfkaaDoorIs
import Derived.Below
namespace Go.Proofs.YtniadajcdldfkaaDoor
open Go.RowKit Go.Extern.Stop Go.Stop Go.Extern

/-! errors.As by its contracts, at concrete targets. -/
theorem as_nil (t : Value) (w : World) :
    Calls Tryd.prog 12 #[.nilIface, t] w fun e w' => e = .returned (.bool false) ∧ w' = w := by
  go_enter Tryd.func12, Tryd.ntmps12
  go_wp2
  go_ret
  exact ⟨rfl, rfl⟩

def Tryd.eValueOf : Array Value → Sem Value := fun args => ReflectliteValue.unpack (args.getD 0 (.tuple #[]))
def Tryd.eType : Array Value → Sem Value := ReflectliteValue.methodAny (ReflectliteValue.valueError "reflectlite.Value.Type" 0) (fun t _ _ _ => ReflectliteType.toType t)
def Tryd.eIsNil : Array Value → Sem Value := ReflectliteValue.method (ReflectliteValue.valueError "reflectlite.Value.IsNil" 0) ReflectliteValue.isNil
def Tryd.eKind : Array Value → Sem Value := ReflectliteType.abiMethod fun t => do pure (.int .u8 (← Rtype.kind t))
def Tryd.eElem : Array Value → Sem Value := ReflectliteType.method ReflectliteType.elem
def Tryd.eImplements : Array Value → Sem Value := ReflectliteType.relation "Implements" ReflectliteType.implements_
def Tryd.eAssignable : Array Value → Sem Value := ReflectliteType.relation "AssignableTo" ReflectliteType.assignableTo
def Tryd.eVElem : Array Value → Sem Value := ReflectliteValue.method (ReflectliteValue.valueError "reflectlite.Value.Elem" 0) ReflectliteValue.elem
def Tryd.eSet : Array Value → Sem Value := ReflectliteValue.set
theorem Tryd.asMethodKind (h : Value) (w : World) : (Go.method 247 91 (.agg #[h]) "Kind").run Tryd.prog w = .ok (48, h) w := by kernel_rfl
theorem Tryd.asMethodElem (h : Value) (w : World) : (Go.method 247 91 (.agg #[h]) "Elem").run Tryd.prog w = .ok (72, .agg #[h]) w := by kernel_rfl
theorem Tryd.asMethodImplements (h : Value) (w : World) : (Go.method 247 91 (.agg #[h]) "Implements").run Tryd.prog w = .ok (73, .agg #[h]) w := by kernel_rfl
theorem Tryd.asMethodAssignableTo (h : Value) (w : World) : (Go.method 247 91 (.agg #[h]) "AssignableTo").run Tryd.prog w = .ok (70, .agg #[h]) w := by kernel_rfl
theorem Tryd.noAsE (v : Value) (xT : TypeId) (w : World) : (Instr.typeAssert (.iface 108 v) xT 95 true).run Tryd.prog w = .ok (.tuple #[.nilIface, .bool false]) w := run_typeAssert_lacksB Tryd.underlying95 (by kernel_rfl) (by kernel_rfl) v xT w

theorem Tryd.noAsW0 (v : Value) (xT : TypeId) (w : World) : (Instr.typeAssert (.iface 40 v) xT 95 true).run Tryd.prog w = .ok (.tuple #[.nilIface, .bool false]) w := run_typeAssert_lacksB Tryd.underlying95 (by kernel_rfl) (by kernel_rfl) v xT w
theorem Tryd.typeOfW0 (v : Value) (w : World) : (Tryd.eTypeOf #[.iface 40 v]).run Tryd.prog w = .ok (.iface 91 (.agg #[.pointer (some ⟨13, 40, none⟩)])) w := by kernel_rfl

end Go.Proofs.YtniadajcdldfkaaDoor
