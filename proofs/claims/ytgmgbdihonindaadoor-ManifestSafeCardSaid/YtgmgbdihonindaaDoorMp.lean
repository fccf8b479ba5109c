/- What the law ManifestSafe needs. -/
import Derived.Test.YtgmgbdihonindaaDoorNF
import Derived.Test.YtgmgbdihonindaaDoorNH
set_option linter.all false

