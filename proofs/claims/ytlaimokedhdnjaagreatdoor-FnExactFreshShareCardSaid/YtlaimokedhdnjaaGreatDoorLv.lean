/-
  A law whose text could start a goroutine, at a call through a function value, but does not: what was shown of its call alone is what the row asks of a call that may leave others behind: there is nobody else.
-/
import Derived.Conc.Holds
namespace Go.Proofs.YtlaimokedhdnjaaGreatDoor
namespace Lv
theorem leaving_of_handed {a : Assume} {C : Checked} {os : Os} {f : FuncId} {r : Reach} {Pre : World → Array Value → Prop} {Post : World → Array Value → Value → World → Prop}
    (h : ReturnsInHanded a C os f r Pre Post) : ReturnsInLeavingWide a C os f r Pre Post := fun enter =>
  ReturnsInOpen.mono (fun last _ _ ⟨hq, hh, he⟩ => ⟨hh, ⟨fun g hg => ⟨0, by
    have := hq.1
    unfold Machine.othersDone at this
    exact eq_of_beq (List.all_eq_true.1 this g hg)⟩, hq.2⟩, he⟩) (fun _ x => x) (h enter)
end Lv
end Go.Proofs.YtlaimokedhdnjaaGreatDoor
