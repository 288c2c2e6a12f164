import Derived.Shelf.Strings.Trim
import Derived.Shelf.Small.Utf8
import Derived.Shelf.Small.Strs
import Derived.Shelf.Strconv.Itoa0
import Derived.Shelf.Strconv.Itoa1
import Derived.Shelf.LaysM
import Derived.Shelf.Strconv.Itoa2
import Derived.Shelf.Strconv.Itoa3
import Derived.Shelf.Strings.Search1
import Derived.Shelf.Strings.Runes
import Derived.Shelf.Strings.IndexAny
import Derived.Shelf.Strings.AsciiSet
import Derived.Shelf.Strings.IndexAnyAll
import Derived.Shelf.Unicode.DecodeSlow
import Derived.Ground.Names2Prog
import Derived.Shelf.Slices.Clone
import Derived.Ground.SlgmProg
import Derived.Shelf.SortM.Plain
import Derived.Shelf.SortM.SortNone
import Derived.Test.YtamacmnikdejeaaGreatDoorProg
open Go renaming Value.string->U,Value.int->J,Value.bool->ZC,IntKind.i64->I,World->E,Ending.returned->ZF,Proofs.Tryz.prog->Pg
open Option renaming some->T
namespace Go.Proofs
open Tryz Go.Shelf
def Tryz.lays161_ren:Go.Shelf.Ren:=⟨λ|161=>226|231=>229|227=>230|233=>231|235=>232|228=>235|197=>240|151=>241|260=>250|152=>233|137=>242|119=>243|224=>244|225=>245|217=>251|266=>254|n=>n,λ|9=>9|4=>4|3=>3|5=>5|117=>314|116=>313|0=>0|124=>317|105=>324|21=>21|119=>332|46=>267|139=>335|138=>334|n=>n,λ|3=>3|4=>4|n=>n⟩
theorem lays161:Go.Proofs.Lays.n161 Pg Tryz.lays161_ren:={
 mixed:=by kernel_rfl
 f119:=func243.trans (congrArg T (by kernel_rfl))
 f137:=func242.trans (congrArg T (by kernel_rfl))
 f151:=func241.trans (congrArg T (by kernel_rfl))
 f152:=func233.trans (congrArg T (by kernel_rfl))
 f161:=func226.trans (congrArg T (by kernel_rfl))
 f197:=func240.trans (congrArg T (by kernel_rfl))
 f217:=func251.trans (congrArg T (by kernel_rfl))
 f224:=func244.trans (congrArg T (by kernel_rfl))
 f225:=func245.trans (congrArg T (by kernel_rfl))
 f227:=func230.trans (congrArg T (by kernel_rfl))
 f228:=func235.trans (congrArg T (by kernel_rfl))
 f231:=func229.trans (congrArg T (by kernel_rfl))
 f233:=func231.trans (congrArg T (by kernel_rfl))
 f235:=func232.trans (congrArg T (by kernel_rfl))
 f260:=func250.trans (congrArg T (by kernel_rfl))
 f266:=func254.trans (congrArg T (by kernel_rfl))
 t0:=underlying0
 a0:=isAgg0
 z0:=sizeOf0
 v0:=zeroValue0
 t3:=underlying3
 a3:=isAgg3
 z3:=sizeOf3
 v3:=zeroValue3
 t4:=underlying4
 a4:=isAgg4
 z4:=sizeOf4
 v4:=zeroValue4
 t5:=underlying5
 a5:=isAgg5
 z5:=sizeOf5
 v5:=zeroValue5
 t9:=underlying9
 a9:=isAgg9
 z9:=sizeOf9
 v9:=zeroValue9
 t21:=underlying21
 a21:=isAgg21
 z21:=sizeOf21
 v21:=zeroValue21
 t46:=underlying267
 a46:=isAgg267
 z46:=sizeOf267
 v46:=zeroValue267
 t105:=underlying324
 a105:=isAgg324
 z105:=sizeOf324
 v105:=zeroValue324
 t116:=underlying313
 a116:=isAgg313
 z116:=sizeOf313
 t117:=underlying314
 a117:=isAgg314
 z117:=sizeOf314
 v117:=zeroValue314
 t119:=underlying332
 a119:=isAgg332
 z119:=sizeOf332
 t124:=underlying317
 a124:=isAgg317
 z124:=sizeOf317
 v124:=zeroValue317
 t138:=underlying334
 a138:=isAgg334
 z138:=sizeOf334
 v138:=zeroValue334
 t139:=underlying335
 a139:=isAgg335
 z139:=sizeOf335
 v139:=zeroValue335
 g3:=by kernel_rfl
 g4:=by kernel_rfl }
def Tryz.lays119_ren:Go.Shelf.Ren:=⟨λ|119=>243|n=>n,λ|21=>21|4=>4|n=>n,λ|n=>n⟩
theorem lays119:Go.Proofs.Lays.n119 Pg Tryz.lays119_ren:={
 mixed:=by kernel_rfl
 f119:=func243.trans (congrArg T (by kernel_rfl))
 t4:=underlying4
 a4:=isAgg4
 z4:=sizeOf4
 v4:=zeroValue4
 t21:=underlying21
 a21:=isAgg21
 z21:=sizeOf21
 v21:=zeroValue21 }
theorem Tryz.utf8_ValidRune (r:Int)(w:E):Calls Pg 243 #[J .i32 r] w λe b=>e=ZF (ZC (Lib.validRune r))/\b=w:=Any.utf8_ValidRune lays119 r w
def Tryz.lays213_ren:Go.Shelf.Ren:=⟨λ|213=>184|265=>207|n=>n,λ|9=>9|3=>3|n=>n,λ|n=>n⟩
def Tryz.lays106_ren:Go.Shelf.Ren:=⟨λ|106=>156|213=>184|265=>207|n=>n,λ|9=>9|3=>3|n=>n,λ|n=>n⟩
theorem lays106:Go.Proofs.Lays.n106 Pg Tryz.lays106_ren:={
 mixed:=by kernel_rfl
 f106:=func156.trans (congrArg T (by kernel_rfl))
 f213:=func184.trans (congrArg T (by kernel_rfl))
 f265:=func207.trans (congrArg T (by kernel_rfl))
 t3:=underlying3
 a3:=isAgg3
 z3:=sizeOf3
 v3:=zeroValue3
 t9:=underlying9
 a9:=isAgg9
 z9:=sizeOf9
 v9:=zeroValue9 }
open RowKit in
theorem Tryz.strings_Compare (a b:ByteArray)(w:E):Calls Pg 156 #[U a,U b] w λe f=>e=ZF (J I (Lib.compareBytes a.data.toList b.data.toList))/\f=w:=Any.strings_Compare lays106 a b w
def Tryz.lays137_ren:Go.Shelf.Ren:=⟨λ|137=>242|217=>251|266=>254|n=>n,λ|9=>9|5=>5|3=>3|n=>n,λ|n=>n⟩
theorem lays137:Go.Proofs.Lays.n137 Pg Tryz.lays137_ren:={
 mixed:=by kernel_rfl
 f137:=func242.trans (congrArg T (by kernel_rfl))
 f217:=func251.trans (congrArg T (by kernel_rfl))
 f266:=func254.trans (congrArg T (by kernel_rfl))
 t3:=underlying3
 a3:=isAgg3
 z3:=sizeOf3
 v3:=zeroValue3
 t5:=underlying5
 a5:=isAgg5
 z5:=sizeOf5
 v5:=zeroValue5
 t9:=underlying9
 a9:=isAgg9
 z9:=sizeOf9
 v9:=zeroValue9 }
open RowKit in
theorem Tryz.strings_IndexByte (s:ByteArray)(c:Int)(w:E):Calls Pg 242 #[U s,J .u8 c] w λe b=>e=ZF (J I (Lib.indexByte s.data.toList c.toNat.toUInt8))/\b=w:=Any.strings_IndexByte lays137 s c w
def Tryz.lays318_ren:Go.Shelf.Ren:=⟨λ|318=>247|n=>n,λ|3=>3|4=>4|n=>n,λ|n=>n⟩
def Tryz.laysM246_ren:Go.Shelf.Ren:=⟨λ|246=>228|283=>236|284=>237|285=>238|286=>239|129=>205|317=>246|318=>247|319=>248|320=>249|337=>252|338=>253|n=>n,λ|2=>2|3=>3|9=>9|4=>4|171=>320|0=>0|53=>290|37=>22|5=>5|173=>322|212=>330|51=>288|20=>20|213=>331|46=>267|232=>336|233=>337|n=>n,λ|17=>2|18=>5|19=>6|n=>n⟩
def Tryz.laysM243_ren:Go.Shelf.Ren:=⟨λ|243=>225|246=>228|283=>236|284=>237|285=>238|286=>239|129=>205|317=>246|318=>247|319=>248|320=>249|337=>252|338=>253|n=>n,λ|3=>3|9=>9|2=>2|4=>4|171=>320|0=>0|53=>290|37=>22|5=>5|173=>322|212=>330|51=>288|20=>20|213=>331|46=>267|232=>336|233=>337|n=>n,λ|17=>2|18=>5|19=>6|n=>n⟩
def Tryz.laysM171_ren:Go.Shelf.Ren:=⟨λ|171=>219|243=>225|246=>228|283=>236|284=>237|285=>238|286=>239|129=>205|317=>246|318=>247|319=>248|320=>249|337=>252|338=>253|n=>n,λ|3=>3|9=>9|2=>2|4=>4|171=>320|0=>0|53=>290|37=>22|5=>5|173=>322|212=>330|51=>288|20=>20|213=>331|46=>267|232=>336|233=>337|n=>n,λ|17=>2|18=>5|19=>6|n=>n⟩
theorem laysM171:Go.Proofs.LaysM.n171 Pg Tryz.laysM171_ren:={
 mixed:=by kernel_rfl
 f129:=func205.trans (congrArg T (by kernel_rfl))
 f171:=func219.trans (congrArg T (by kernel_rfl))
 f243:=func225.trans (congrArg T (by kernel_rfl))
 f246:=func228.trans (congrArg T (by kernel_rfl))
 f283:=func236.trans (congrArg T (by kernel_rfl))
 f284:=func237.trans (congrArg T (by kernel_rfl))
 f285:=func238.trans (congrArg T (by kernel_rfl))
 f286:=func239.trans (congrArg T (by kernel_rfl))
 f317:=func246.trans (congrArg T (by kernel_rfl))
 f318:=func247.trans (congrArg T (by kernel_rfl))
 f319:=func248.trans (congrArg T (by kernel_rfl))
 f320:=func249.trans (congrArg T (by kernel_rfl))
 f337:=func252.trans (congrArg T (by kernel_rfl))
 f338:=func253.trans (congrArg T (by kernel_rfl))
 t0:=underlying0
 a0:=isAgg0
 z0:=sizeOf0
 v0:=zeroValue0
 t2:=underlying2
 a2:=isAgg2
 z2:=sizeOf2
 v2:=zeroValue2
 t3:=underlying3
 a3:=isAgg3
 z3:=sizeOf3
 v3:=zeroValue3
 t4:=underlying4
 a4:=isAgg4
 z4:=sizeOf4
 v4:=zeroValue4
 t5:=underlying5
 a5:=isAgg5
 z5:=sizeOf5
 v5:=zeroValue5
 t9:=underlying9
 a9:=isAgg9
 z9:=sizeOf9
 v9:=zeroValue9
 t20:=underlying20
 a20:=isAgg20
 z20:=sizeOf20
 v20:=zeroValue20
 t37:=underlying22
 a37:=isAgg22
 z37:=sizeOf22
 v37:=zeroValue22
 t46:=underlying267
 a46:=isAgg267
 z46:=sizeOf267
 v46:=zeroValue267
 t51:=underlying288
 a51:=isAgg288
 z51:=sizeOf288
 v51:=zeroValue288
 t53:=underlying290
 a53:=isAgg290
 z53:=sizeOf290
 v53:=zeroValue290
 t171:=underlying320
 a171:=isAgg320
 z171:=sizeOf320
 v171:=zeroValue320
 t173:=underlying322
 a173:=isAgg322
 z173:=sizeOf322
 v173:=zeroValue322
 t212:=underlying330
 a212:=isAgg330
 z212:=sizeOf330
 v212:=zeroValue330
 t213:=underlying331
 a213:=isAgg331
 z213:=sizeOf331
 t232:=underlying336
 a232:=isAgg336
 z232:=sizeOf336
 v232:=zeroValue336
 t233:=underlying337
 a233:=isAgg337
 z233:=sizeOf337
 v233:=zeroValue337
 g17:=by kernel_rfl
 g18:=by kernel_rfl
 g19:=by kernel_rfl
 i0:=by kernel_rfl
 i2:=by kernel_rfl
 i3:=by kernel_rfl
 i4:=by kernel_rfl
 i5:=by kernel_rfl
 i9:=by kernel_rfl
 i20:=by kernel_rfl
 i37:=by kernel_rfl
 i46:=by kernel_rfl
 i51:=by kernel_rfl
 i53:=by kernel_rfl
 i171:=by kernel_rfl
 i173:=by kernel_rfl
 i212:=by kernel_rfl
 i232:=by kernel_rfl
 i233:=by kernel_rfl
 m17:=by kernel_rfl
 m18:=by kernel_rfl
 m19:=by kernel_rfl }
open RowKit Go.Sort Go.Lib in
theorem Tryz.strconv_Itoa (n:Int)(g:-9223372036854775808<=n)(h1:n<=9223372036854775807)(w:E)(b:Lib.TabIs Pg w "internal/strconv.uint64pow10" .u64 Lib.pow10Tab):Calls Pg 219 #[J I n] w λe f=>e=ZF (U ⟨(Lib.itoa n).toArray⟩)/\∃k os,f=grow (w.drewN k) os:=Any.strconv_Itoa laysM171 n g h1 w b
def Tryz.lays152_ren:Go.Shelf.Ren:=⟨λ|152=>233|137=>242|119=>243|224=>244|225=>245|217=>251|266=>254|n=>n,λ|9=>9|21=>21|3=>3|4=>4|5=>5|0=>0|46=>267|n=>n,λ|n=>n⟩
theorem lays152:Go.Proofs.Lays.n152 Pg Tryz.lays152_ren:={
 mixed:=by kernel_rfl
 f119:=func243.trans (congrArg T (by kernel_rfl))
 f137:=func242.trans (congrArg T (by kernel_rfl))
 f152:=func233.trans (congrArg T (by kernel_rfl))
 f217:=func251.trans (congrArg T (by kernel_rfl))
 f224:=func244.trans (congrArg T (by kernel_rfl))
 f225:=func245.trans (congrArg T (by kernel_rfl))
 f266:=func254.trans (congrArg T (by kernel_rfl))
 t0:=underlying0
 a0:=isAgg0
 z0:=sizeOf0
 v0:=zeroValue0
 t3:=underlying3
 a3:=isAgg3
 z3:=sizeOf3
 v3:=zeroValue3
 t4:=underlying4
 a4:=isAgg4
 z4:=sizeOf4
 v4:=zeroValue4
 t5:=underlying5
 a5:=isAgg5
 z5:=sizeOf5
 v5:=zeroValue5
 t9:=underlying9
 a9:=isAgg9
 z9:=sizeOf9
 v9:=zeroValue9
 t21:=underlying21
 a21:=isAgg21
 z21:=sizeOf21
 v21:=zeroValue21
 t46:=underlying267
 a46:=isAgg267
 z46:=sizeOf267
 v46:=zeroValue267 }
open RowKit Go.Lib in
theorem Tryz.strings_IndexRune_ascii (s:ByteArray)(r:Int)(w:E)(f:0<=r)(h1:r<128):Calls Pg 233 #[U s,J .i32 r] w λe b=>e=ZF (J I (Lib.indexByte s.data.toList r.toNat.toUInt8))/\b=w:=Any.strings_IndexRune_ascii lays152 s r w f h1
def Tryz.lays226_ren:Go.Shelf.Ren:=⟨λ|226=>234|n=>n,λ|3=>3|4=>4|n=>n,λ|n=>n⟩
theorem lays226:Go.Proofs.Lays.n226 Pg Tryz.lays226_ren:={
 mixed:=by kernel_rfl
 f226:=func234.trans (congrArg T (by kernel_rfl))
 t3:=underlying3
 a3:=isAgg3
 z3:=sizeOf3
 v3:=zeroValue3
 t4:=underlying4
 a4:=isAgg4
 z4:=sizeOf4
 v4:=zeroValue4 }
open RowKit Go.Lib in
theorem Tryz.strings_shouldUseASCIISet (n:Int)(w:E):Calls Pg 234 #[J I n] w λe b=>e=ZF (ZC (decide (8<n)))/\b=w:=Any.strings_shouldUseASCIISet lays226 n w
def Tryz.lays153_ren:Go.Shelf.Ren:=⟨λ|153=>227|152=>233|226=>234|227=>230|228=>235|137=>242|119=>243|224=>244|225=>245|217=>251|266=>254|n=>n,λ|9=>9|3=>3|4=>4|5=>5|21=>21|117=>314|116=>313|0=>0|46=>267|124=>317|n=>n,λ|n=>n⟩
theorem lays153:Go.Proofs.Lays.n153 Pg Tryz.lays153_ren:={
 mixed:=by kernel_rfl
 f119:=func243.trans (congrArg T (by kernel_rfl))
 f137:=func242.trans (congrArg T (by kernel_rfl))
 f152:=func233.trans (congrArg T (by kernel_rfl))
 f153:=func227.trans (congrArg T (by kernel_rfl))
 f217:=func251.trans (congrArg T (by kernel_rfl))
 f224:=func244.trans (congrArg T (by kernel_rfl))
 f225:=func245.trans (congrArg T (by kernel_rfl))
 f226:=func234.trans (congrArg T (by kernel_rfl))
 f227:=func230.trans (congrArg T (by kernel_rfl))
 f228:=func235.trans (congrArg T (by kernel_rfl))
 f266:=func254.trans (congrArg T (by kernel_rfl))
 t0:=underlying0
 a0:=isAgg0
 z0:=sizeOf0
 v0:=zeroValue0
 t3:=underlying3
 a3:=isAgg3
 z3:=sizeOf3
 v3:=zeroValue3
 t4:=underlying4
 a4:=isAgg4
 z4:=sizeOf4
 v4:=zeroValue4
 t5:=underlying5
 a5:=isAgg5
 z5:=sizeOf5
 v5:=zeroValue5
 t9:=underlying9
 a9:=isAgg9
 z9:=sizeOf9
 v9:=zeroValue9
 t21:=underlying21
 a21:=isAgg21
 z21:=sizeOf21
 v21:=zeroValue21
 t46:=underlying267
 a46:=isAgg267
 z46:=sizeOf267
 v46:=zeroValue267
 t116:=underlying313
 a116:=isAgg313
 z116:=sizeOf313
 t117:=underlying314
 a117:=isAgg314
 z117:=sizeOf314
 v117:=zeroValue314
 t124:=underlying317
 a124:=isAgg317
 z124:=sizeOf317
 v124:=zeroValue317 }
open RowKit Go.Lib in
theorem Tryz.strings_IndexAny_long (h:∀w,(zeroValue 313).run Pg w=.ok (.agg (Array.replicate 256 (ZC false))) w)(s f:ByteArray)(w:E)(h2:2<=f.size)(m:8<s.size)(n:s.size<4294967281)(i:f.size<4294967281)(g:∀(j:Nat) b,f.data.toList[j]?=T b->b.toNat<128):Calls Pg 227 #[U s,U f] w λe l=>e=ZF (J I (Lib.indexAny s.data.toList f.data.toList))/\l=((w.alloc (.cells (Lib.setCells f.data.toList) 313)).alloc (.cells (Lib.setCells f.data.toList) 313)):=Any.strings_IndexAny_long lays153 h (by kernel_rfl) s f w h2 m n i g
def Tryz.laysNm216_ren:Go.Shelf.Ren:=⟨λ|16=>160|n=>n,λ|24=>35|9=>9|4=>4|n=>n,λ|n=>n⟩
theorem laysNm216:Go.Proofs.Lays2.n16 Pg Tryz.laysNm216_ren:={
 mixed:=by kernel_rfl
 f16:=func160.trans (congrArg T (by kernel_rfl))
 t4:=underlying4
 a4:=isAgg4
 z4:=sizeOf4
 v4:=zeroValue4
 t9:=underlying9
 a9:=isAgg9
 z9:=sizeOf9
 v9:=zeroValue9
 t24:=underlying35
 a24:=isAgg35
 z24:=sizeOf35
 v24:=zeroValue35
 i9:=by kernel_rfl }
open RowKit Go.Lib in
theorem Tryz.slices_Clone_string (b off n c:Nat)(zs:List ByteArray)(w:E)(hz:n<=zs.length)(g:n*16<=140737488355328)(i:∀j,j<zs.length->w.cell? ⟨b,off+j,none⟩=T (U (zs.getD j ByteArray.empty))):Calls Pg 160 #[.slice (T ⟨b,off,none⟩) n c] w λe h=>∃f,e=ZF f/\h.ownsRow w.heap.size 9 1 f n ((zs.take n).map (Value.string))/\f≠.slice none 0 0/\Below w.heap.size w h:=Any.slices_Clone_string laysNm216 b off n c zs w hz g i
