/- Nothing of the shelf is needed: the base texts. -/
import Derived.Test.YtoghogpcgdcboaaDoorProg
import Derived.Lib.Hide
