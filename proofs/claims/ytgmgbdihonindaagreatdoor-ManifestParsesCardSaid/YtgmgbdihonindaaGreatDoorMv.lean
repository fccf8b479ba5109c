/- What the laws ManifestChecks and ManifestParses need. -/
import Derived.Test.YtgmgbdihonindaaGreatDoorNF
import Derived.Test.YtgmgbdihonindaaGreatDoorVC
import Derived.Test.YtgmgbdihonindaaGreatDoorVD
set_option linter.all false

