/- The library's sort: not reached here. -/
import Derived.Sort.Grow
import Derived.Test.YtikldofmpkidbaaProg
