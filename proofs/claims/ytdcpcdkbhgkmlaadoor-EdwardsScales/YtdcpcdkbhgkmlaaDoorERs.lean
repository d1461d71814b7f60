import Derived.Test.YtdcpcdkbhgkmlaaDoorProg
import Derived.WalkKit
import Derived.WalkSpells
import Derived.WalkLawsBesides
import Derived.Lib.QuietBelow
import Derived.BigQuiet
import Derived.Test.YtdcpcdkbhgkmlaaDoorEKa
import Derived.Test.YtdcpcdkbhgkmlaaDoorERp
import Derived.Test.YtdcpcdkbhgkmlaaDoorERrTe
import Derived.Test.YtdcpcdkbhgkmlaaDoorERrTo
import Derived.Test.YtdcpcdkbhgkmlaaDoorERrFTe
import Derived.Test.YtdcpcdkbhgkmlaaDoorERrFTo
import Derived.Test.YtdcpcdkbhgkmlaaDoorERrFFe
namespace Go.Proofs.YtdcpcdkbhgkmlaaDoor
set_option maxRecDepth 100000
open Go.RowKit Go.Sort
attribute [local go_sem] setCell_drewN alloc_drewN
theorem r_root {m:Int} (h:inP m):Gives 69 #[.agg (rd m)] (.tuple #[.agg (rd (rval m%prm)),.bool (rok m)]):=by
 by_cases h1:m^7237005577332262213973186563042994240829374041602535252466099000494570602494*m^7237005577332262213973186563042994240829374041602535252466099000494570602494%prm=m%prm
 ·have e:rt m=m^7237005577332262213973186563042994240829374041602535252466099000494570602494:=by unfold rt;rw[if_pos h1]
  have k:rok m=true:=by rw[rok_iff,e];exact h1
  have v:rval m=ev (m^7237005577332262213973186563042994240829374041602535252466099000494570602494):=by unfold rval;rw[if_pos k,e]
  rw[k,v]
  by_cases ho:(m^7237005577332262213973186563042994240829374041602535252466099000494570602494)%prm%2=1
  ·exact refRoot_To h h1 ho
  ·exact refRoot_Te h h1 ho
 ·have e:rt m=m^7237005577332262213973186563042994240829374041602535252466099000494570602494*uu:=by unfold rt;rw[if_neg h1]
  by_cases h2:m^7237005577332262213973186563042994240829374041602535252466099000494570602494*uu*(m^7237005577332262213973186563042994240829374041602535252466099000494570602494*uu)%prm=m%prm
  ·have k:rok m=true:=by rw[rok_iff,e];exact h2
   have v:rval m=ev (m^7237005577332262213973186563042994240829374041602535252466099000494570602494*uu):=by unfold rval;rw[if_pos k,e]
   rw[k,v]
   by_cases ho:(m^7237005577332262213973186563042994240829374041602535252466099000494570602494*uu)%prm%2=1
   ·exact refRoot_FTo h h1 h2 ho
   ·exact refRoot_FTe h h1 h2 ho
  ·have k:rok m=false:=by rw[Bool.eq_false_iff];intro q;rw[rok_iff,e] at q;exact h2 q
   have v:rval m%prm=0:=by unfold rval;rw[k];rfl
   rw[k,v];exact refRoot_FFe h h1 h2
end Go.Proofs.YtdcpcdkbhgkmlaaDoor
