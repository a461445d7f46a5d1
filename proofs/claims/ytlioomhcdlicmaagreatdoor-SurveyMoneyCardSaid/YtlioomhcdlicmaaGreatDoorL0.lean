/- The law SurveyWatches, walked, whose helpers are used. -/
import Derived.Test.YtlioomhcdlicmaaGreatDoorC7
set_option linter.all false
/- The law SurveyWatches. -/
namespace Go.Proofs.YtlioomhcdlicmaaGreatDoor
open Go Go.Ab Go.Fl
attribute [local irreducible] SeqQ BlkQ LpQ RetQ Wc Wo WD WX Op1 Op1q Op1a Cf Cl From
attribute [local irreducible] Ieee.Format.order Ieee.Format.read Ieee.Format.nearest Ieee.Format.write Ieee.Format.mul Ieee.Format.div Ieee.Format.sqrt Ieee.Datum.order Ieee.Datum.integral K U rngE errN ptE firstNZ vesE watE sgE sgsE allE hitB sqD insB qsL lvl rn rl
set_option maxRecDepth 10000
variable {G : Base} {h : H}
attribute [local irreducible] fl silN insN levN inL leL
theorem cf_formW {M : Mc} {f : Value} {xs : List Value} {w n : Nat} {L : List Value} (c : Cf M f xs h fun r h' => Sl G h' w r n L ∧ Grow h h') : Cf M f xs h fun r h' => (∃ a c, r = .slice a n c ∧ Sl G h' w (.slice a n c) n L) ∧ Grow h h' :=
 c.mono fun r h' ⟨s, g⟩ => by
   obtain ⟨a, c, rfl⟩ := s.form
   exact ⟨⟨a, c, rfl, s⟩, g⟩
end Go.Proofs.YtlioomhcdlicmaaGreatDoor
