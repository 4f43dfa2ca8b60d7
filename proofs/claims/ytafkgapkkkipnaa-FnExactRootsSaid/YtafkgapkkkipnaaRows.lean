/-
  No cell of these rows narrows 'for every input' (looked for: loops, veiled, ifaces, maps, wideKeys, modest, calm, conditions, laid).
  DERIVED. THE GIVEN ROWS OF THIS SEAT. 8 by the template 'for every input the law returns true; each argument reads behind the call as it read before'; 0 by the template 'total and deterministic' (their statements: YtafkgapkkkipnaaTotals.lean).
  GIVEN WITH THE SEED: the statements are not yours to turn. If you find one false, say at which input.
  Laid BY PROGRAM, IN A SANDBOX (cutbox-rows.mjs): the forced cells as the released guide's own fill.sh prints them over the translation 4ef22632aeed0a3a… (all of the seat's roots in one cut). By AI agents, Wed Nov 11 2026. No macro, syntax, notation, axiom, sorry.
-/
import Derived.Test.YtafkgapkkkipnaaChecked
import GoSem.Claim
import GoSem.ClaimJoined
import GoSem.ClaimMapViews
import Derived.JoinedTies
import Derived.KernelRfl
namespace Go.Proofs.Ytafkgapkkkipnaa
/- THE CELL 'sum', in the pinned program and in every row, IS THE sha256 OF THE DUMP (.gsa) THAT YtafkgapkkkipnaaProg.lean LOADS. Nothing in Lean hashes anything: it is a label: what it is worth is what the hold of that sum in a sandbox is worth. -/
noncomputable def Try.pinned : Pinned := { name := "ytafkgapkkkipnaa", sum := "4ef22632aeed0a3ac0f8185b9d698e7d7e29f31a7578d8674f29dfcd8bf9d2e0", checked := Try.checked }
namespace Rows
def none {H : Type} : Left H := { results := [], args := [] }

/-- 'laws.FnNodes': WHATEVER THE INPUT: true; the input reads as it did. -/
def fnNodesSpec : ChangeSpec := { name := "fnNodes", fn := fun _ => fun
  | [d] => { results := [.lit (.bool true)], args := [d] }
  | _ => none }
def fnNodesRow : OpenClaim := { program := "ytafkgapkkkipnaa", sum := "4ef22632aeed0a3ac0f8185b9d698e7d7e29f31a7578d8674f29dfcd8bf9d2e0", func := "loop.example/g00783/laws.FnNodes", spec := "fnNodes", unfollowed := true, recurses := true, apart := false }
def FnNodesSaid : Prop := fnNodesRow.holds Try.pinned (OpenSpec.ofChange fnNodesSpec)

/-- ITS FALSE NEIGHBOUR: 'it returns false'. Refute it at one input. -/
def fnNodesWrong : ChangeSpec := { name := "fnNodes", fn := fun _ => fun
  | [d] => { results := [.lit (.bool false)], args := [d] }
  | _ => none }
def FnNodesWrongFalsely : Prop := fnNodesRow.holds Try.pinned (OpenSpec.ofChange fnNodesWrong)

/-- 'laws.FnExactNodesOk': WHATEVER THE INPUT: true; the input reads as it did. -/
def fnExactNodesOkSpec : ChangeSpec := { name := "fnExactNodesOk", fn := fun _ => fun
  | [d] => { results := [.lit (.bool true)], args := [d] }
  | _ => none }
def fnExactNodesOkRow : OpenClaim := { program := "ytafkgapkkkipnaa", sum := "4ef22632aeed0a3ac0f8185b9d698e7d7e29f31a7578d8674f29dfcd8bf9d2e0", func := "loop.example/g00783/laws.FnExactNodesOk", spec := "fnExactNodesOk", unfollowed := true, recurses := true, apart := false }
def FnExactNodesOkSaid : Prop := fnExactNodesOkRow.holds Try.pinned (OpenSpec.ofChange fnExactNodesOkSpec)

/-- ITS FALSE NEIGHBOUR: 'it returns false'. Refute it at one input. -/
def fnExactNodesOkWrong : ChangeSpec := { name := "fnExactNodesOk", fn := fun _ => fun
  | [d] => { results := [.lit (.bool false)], args := [d] }
  | _ => none }
def FnExactNodesOkWrongFalsely : Prop := fnExactNodesOkRow.holds Try.pinned (OpenSpec.ofChange fnExactNodesOkWrong)

/-- 'laws.FnExactRoots': WHATEVER THE INPUT: true; the input reads as it did. -/
def fnExactRootsSpec : ChangeSpec := { name := "fnExactRoots", fn := fun _ => fun
  | [] => { results := [.lit (.bool true)], args := [] }
  | _ => none }
def fnExactRootsRow : OpenClaim := { program := "ytafkgapkkkipnaa", sum := "4ef22632aeed0a3ac0f8185b9d698e7d7e29f31a7578d8674f29dfcd8bf9d2e0", func := "loop.example/g00783/laws.FnExactRoots", spec := "fnExactRoots", apart := false }
def FnExactRootsSaid : Prop := fnExactRootsRow.holds Try.pinned (OpenSpec.ofChange fnExactRootsSpec)

/-- ITS FALSE NEIGHBOUR: 'it returns false'. Refute it at one input. -/
def fnExactRootsWrong : ChangeSpec := { name := "fnExactRoots", fn := fun _ => fun
  | [] => { results := [.lit (.bool false)], args := [] }
  | _ => none }
def FnExactRootsWrongFalsely : Prop := fnExactRootsRow.holds Try.pinned (OpenSpec.ofChange fnExactRootsWrong)

/-- 'laws.FnExactKidOf': WHATEVER THE INPUT: true; the input reads as it did. -/
def fnExactKidOfSpec : ChangeSpec := { name := "fnExactKidOf", fn := fun _ => fun
  | [d1, d2] => { results := [.lit (.bool true)], args := [d1, d2] }
  | _ => none }
def fnExactKidOfRow : OpenClaim := { program := "ytafkgapkkkipnaa", sum := "4ef22632aeed0a3ac0f8185b9d698e7d7e29f31a7578d8674f29dfcd8bf9d2e0", func := "loop.example/g00783/laws.FnExactKidOf", spec := "fnExactKidOf", apart := false }
def FnExactKidOfSaid : Prop := fnExactKidOfRow.holds Try.pinned (OpenSpec.ofChange fnExactKidOfSpec)

/-- ITS FALSE NEIGHBOUR: 'it returns false'. Refute it at one input. -/
def fnExactKidOfWrong : ChangeSpec := { name := "fnExactKidOf", fn := fun _ => fun
  | [d1, d2] => { results := [.lit (.bool false)], args := [d1, d2] }
  | _ => none }
def FnExactKidOfWrongFalsely : Prop := fnExactKidOfRow.holds Try.pinned (OpenSpec.ofChange fnExactKidOfWrong)

/-- 'laws.FnExactWithKid': WHATEVER THE INPUT: true; the input reads as it did. -/
def fnExactWithKidSpec : ChangeSpec := { name := "fnExactWithKid", fn := fun _ => fun
  | [d1, d2, d3] => { results := [.lit (.bool true)], args := [d1, d2, d3] }
  | _ => none }
def fnExactWithKidRow : OpenClaim := { program := "ytafkgapkkkipnaa", sum := "4ef22632aeed0a3ac0f8185b9d698e7d7e29f31a7578d8674f29dfcd8bf9d2e0", func := "loop.example/g00783/laws.FnExactWithKid", spec := "fnExactWithKid", apart := false }
def FnExactWithKidSaid : Prop := fnExactWithKidRow.holds Try.pinned (OpenSpec.ofChange fnExactWithKidSpec)

/-- ITS FALSE NEIGHBOUR: 'it returns false'. Refute it at one input. -/
def fnExactWithKidWrong : ChangeSpec := { name := "fnExactWithKid", fn := fun _ => fun
  | [d1, d2, d3] => { results := [.lit (.bool false)], args := [d1, d2, d3] }
  | _ => none }
def FnExactWithKidWrongFalsely : Prop := fnExactWithKidRow.holds Try.pinned (OpenSpec.ofChange fnExactWithKidWrong)

/-- 'laws.FnExactTagAt': WHATEVER THE INPUT: true; the input reads as it did. -/
def fnExactTagAtSpec : ChangeSpec := { name := "fnExactTagAt", fn := fun _ => fun
  | [d1, d2] => { results := [.lit (.bool true)], args := [d1, d2] }
  | _ => none }
def fnExactTagAtRow : OpenClaim := { program := "ytafkgapkkkipnaa", sum := "4ef22632aeed0a3ac0f8185b9d698e7d7e29f31a7578d8674f29dfcd8bf9d2e0", func := "loop.example/g00783/laws.FnExactTagAt", spec := "fnExactTagAt", apart := false }
def FnExactTagAtSaid : Prop := fnExactTagAtRow.holds Try.pinned (OpenSpec.ofChange fnExactTagAtSpec)

/-- ITS FALSE NEIGHBOUR: 'it returns false'. Refute it at one input. -/
def fnExactTagAtWrong : ChangeSpec := { name := "fnExactTagAt", fn := fun _ => fun
  | [d1, d2] => { results := [.lit (.bool false)], args := [d1, d2] }
  | _ => none }
def FnExactTagAtWrongFalsely : Prop := fnExactTagAtRow.holds Try.pinned (OpenSpec.ofChange fnExactTagAtWrong)

/-- 'laws.FnExactWithTag': WHATEVER THE INPUT: true; the input reads as it did. -/
def fnExactWithTagSpec : ChangeSpec := { name := "fnExactWithTag", fn := fun _ => fun
  | [d1, d2] => { results := [.lit (.bool true)], args := [d1, d2] }
  | _ => none }
def fnExactWithTagRow : OpenClaim := { program := "ytafkgapkkkipnaa", sum := "4ef22632aeed0a3ac0f8185b9d698e7d7e29f31a7578d8674f29dfcd8bf9d2e0", func := "loop.example/g00783/laws.FnExactWithTag", spec := "fnExactWithTag", apart := false }
def FnExactWithTagSaid : Prop := fnExactWithTagRow.holds Try.pinned (OpenSpec.ofChange fnExactWithTagSpec)

/-- ITS FALSE NEIGHBOUR: 'it returns false'. Refute it at one input. -/
def fnExactWithTagWrong : ChangeSpec := { name := "fnExactWithTag", fn := fun _ => fun
  | [d1, d2] => { results := [.lit (.bool false)], args := [d1, d2] }
  | _ => none }
def FnExactWithTagWrongFalsely : Prop := fnExactWithTagRow.holds Try.pinned (OpenSpec.ofChange fnExactWithTagWrong)

/-- 'laws.FnExactSideOf': WHATEVER THE INPUT: true; the input reads as it did. -/
def fnExactSideOfSpec : ChangeSpec := { name := "fnExactSideOf", fn := fun _ => fun
  | [d1, d2] => { results := [.lit (.bool true)], args := [d1, d2] }
  | _ => none }
def fnExactSideOfRow : OpenClaim := { program := "ytafkgapkkkipnaa", sum := "4ef22632aeed0a3ac0f8185b9d698e7d7e29f31a7578d8674f29dfcd8bf9d2e0", func := "loop.example/g00783/laws.FnExactSideOf", spec := "fnExactSideOf", apart := false }
def FnExactSideOfSaid : Prop := fnExactSideOfRow.holds Try.pinned (OpenSpec.ofChange fnExactSideOfSpec)

/-- ITS FALSE NEIGHBOUR: 'it returns false'. Refute it at one input. -/
def fnExactSideOfWrong : ChangeSpec := { name := "fnExactSideOf", fn := fun _ => fun
  | [d1, d2] => { results := [.lit (.bool false)], args := [d1, d2] }
  | _ => none }
def FnExactSideOfWrongFalsely : Prop := fnExactSideOfRow.holds Try.pinned (OpenSpec.ofChange fnExactSideOfWrong)

/- THE SECOND FORM. 'bulk': how many values and letters a reading holds, each counted each time it is reached (what is shared counts as often as it is met; a slice's spare places count too). A statement '..UptoSaid' is the law's where the arguments, and the package variables that the reading takes, are together of bulk at most 1048576: NARROWER than '..Said'. Prove '..Said' where nothing that the law and all that it calls make is longer than what came in: it says more and counts as full. Else prove '..UptoSaid'. A law counts once. -/
mutual
def uptoBulk {H : Type} : DataW H → Nat
  | .lit (.string bytes) => bytes.length + 1
  | .lit _ => 1
  | .nil => 1
  | .ptr d => uptoBulk d + 1
  | .slice elems spare => uptoBulkAll elems + uptoBulkAll spare + 1
  | .agg parts => uptoBulkAll parts + 1
  | .iface _ d => uptoBulk d + 1
  | .map entries => uptoBulkEntries entries + 1
  | .held _ => 1
def uptoBulkAll {H : Type} : List (DataW H) → Nat
  | [] => 0
  | d :: r => uptoBulk d + uptoBulkAll r
def uptoBulkEntries {H : Type} : List (Lit × DataW H) → Nat
  | [] => 0
  | x :: r => uptoBulkEntry x + uptoBulkEntries r
def uptoBulkEntry {H : Type} : Lit × DataW H → Nat
  | (.string bytes, d) => bytes.length + uptoBulk d + 1
  | (_, d) => uptoBulk d + 1
 end
def uptoSmall : (H : Type) → List (DataW H) → Bool := fun _ ds => decide (uptoBulkAll ds ≤ 1048576)
def OpenSpec.upto (s : _root_.Go.ChangeSpec) : _root_.Go.OpenSpec := { _root_.Go.OpenSpec.ofChange s with cond := some uptoSmall }

/-- 'laws.FnNodes', WHERE WHAT IT READS IS OF BULK AT MOST 1048576: true; the input reads as it did. -/
def fnNodesUptoRow : OpenClaim := { program := "ytafkgapkkkipnaa", sum := "4ef22632aeed0a3ac0f8185b9d698e7d7e29f31a7578d8674f29dfcd8bf9d2e0", func := "loop.example/g00783/laws.FnNodes", spec := "fnNodes", unfollowed := true, recurses := true, apart := false, narrowed := true }
def FnNodesUptoSaid : Prop := fnNodesUptoRow.holds Try.pinned (OpenSpec.upto fnNodesSpec)

/-- 'laws.FnExactNodesOk', WHERE WHAT IT READS IS OF BULK AT MOST 1048576: true; the input reads as it did. -/
def fnExactNodesOkUptoRow : OpenClaim := { program := "ytafkgapkkkipnaa", sum := "4ef22632aeed0a3ac0f8185b9d698e7d7e29f31a7578d8674f29dfcd8bf9d2e0", func := "loop.example/g00783/laws.FnExactNodesOk", spec := "fnExactNodesOk", unfollowed := true, recurses := true, apart := false, narrowed := true }
def FnExactNodesOkUptoSaid : Prop := fnExactNodesOkUptoRow.holds Try.pinned (OpenSpec.upto fnExactNodesOkSpec)

/-- 'laws.FnExactRoots', WHERE WHAT IT READS IS OF BULK AT MOST 1048576: true; the input reads as it did. -/
def fnExactRootsUptoRow : OpenClaim := { program := "ytafkgapkkkipnaa", sum := "4ef22632aeed0a3ac0f8185b9d698e7d7e29f31a7578d8674f29dfcd8bf9d2e0", func := "loop.example/g00783/laws.FnExactRoots", spec := "fnExactRoots", apart := false, narrowed := true }
def FnExactRootsUptoSaid : Prop := fnExactRootsUptoRow.holds Try.pinned (OpenSpec.upto fnExactRootsSpec)

/-- 'laws.FnExactKidOf', WHERE WHAT IT READS IS OF BULK AT MOST 1048576: true; the input reads as it did. -/
def fnExactKidOfUptoRow : OpenClaim := { program := "ytafkgapkkkipnaa", sum := "4ef22632aeed0a3ac0f8185b9d698e7d7e29f31a7578d8674f29dfcd8bf9d2e0", func := "loop.example/g00783/laws.FnExactKidOf", spec := "fnExactKidOf", apart := false, narrowed := true }
def FnExactKidOfUptoSaid : Prop := fnExactKidOfUptoRow.holds Try.pinned (OpenSpec.upto fnExactKidOfSpec)

/-- 'laws.FnExactWithKid', WHERE WHAT IT READS IS OF BULK AT MOST 1048576: true; the input reads as it did. -/
def fnExactWithKidUptoRow : OpenClaim := { program := "ytafkgapkkkipnaa", sum := "4ef22632aeed0a3ac0f8185b9d698e7d7e29f31a7578d8674f29dfcd8bf9d2e0", func := "loop.example/g00783/laws.FnExactWithKid", spec := "fnExactWithKid", apart := false, narrowed := true }
def FnExactWithKidUptoSaid : Prop := fnExactWithKidUptoRow.holds Try.pinned (OpenSpec.upto fnExactWithKidSpec)

/-- 'laws.FnExactTagAt', WHERE WHAT IT READS IS OF BULK AT MOST 1048576: true; the input reads as it did. -/
def fnExactTagAtUptoRow : OpenClaim := { program := "ytafkgapkkkipnaa", sum := "4ef22632aeed0a3ac0f8185b9d698e7d7e29f31a7578d8674f29dfcd8bf9d2e0", func := "loop.example/g00783/laws.FnExactTagAt", spec := "fnExactTagAt", apart := false, narrowed := true }
def FnExactTagAtUptoSaid : Prop := fnExactTagAtUptoRow.holds Try.pinned (OpenSpec.upto fnExactTagAtSpec)

/-- 'laws.FnExactWithTag', WHERE WHAT IT READS IS OF BULK AT MOST 1048576: true; the input reads as it did. -/
def fnExactWithTagUptoRow : OpenClaim := { program := "ytafkgapkkkipnaa", sum := "4ef22632aeed0a3ac0f8185b9d698e7d7e29f31a7578d8674f29dfcd8bf9d2e0", func := "loop.example/g00783/laws.FnExactWithTag", spec := "fnExactWithTag", apart := false, narrowed := true }
def FnExactWithTagUptoSaid : Prop := fnExactWithTagUptoRow.holds Try.pinned (OpenSpec.upto fnExactWithTagSpec)

/-- 'laws.FnExactSideOf', WHERE WHAT IT READS IS OF BULK AT MOST 1048576: true; the input reads as it did. -/
def fnExactSideOfUptoRow : OpenClaim := { program := "ytafkgapkkkipnaa", sum := "4ef22632aeed0a3ac0f8185b9d698e7d7e29f31a7578d8674f29dfcd8bf9d2e0", func := "loop.example/g00783/laws.FnExactSideOf", spec := "fnExactSideOf", apart := false, narrowed := true }
def FnExactSideOfUptoSaid : Prop := fnExactSideOfUptoRow.holds Try.pinned (OpenSpec.upto fnExactSideOfSpec)

end Rows
end Go.Proofs.Ytafkgapkkkipnaa
