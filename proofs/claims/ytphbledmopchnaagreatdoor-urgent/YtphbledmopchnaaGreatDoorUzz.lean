import Derived.WalkKit
import Derived.Below
namespace Go.Proofs.YtphbledmopchnaaGreatDoor
open Go.RowKit
abbrev aj(b o:Nat):Addr:=⟨b,o,none⟩
abbrev ay(b o:Nat):Value:=.pointer (some ⟨b,o,none⟩)
abbrev uZ(x:Int):Value:=.int .u64 x
abbrev iZ(x:Int):Value:=.int .i64 x
abbrev aS(b n c:Nat):Value:=.slice (some ⟨b,0,none⟩) n c
abbrev aI:=List Value
abbrev aP:=List (Nat×Nat)
abbrev nZ:Value:=.slice none 0 0
abbrev zZ(w:World):Nat:=w.heap.size
abbrev aD(w y:World):Prop:=Below w.heap.size w y
