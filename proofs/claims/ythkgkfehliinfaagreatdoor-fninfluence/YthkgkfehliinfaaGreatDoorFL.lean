import Derived.Test.YthkgkfehliinfaaGreatDoorGQ
import Derived.Shelf.Strings.Trim
import Derived.Shelf.Small.Utf8
import Derived.Shelf.Small.Strs
import Derived.Shelf.Strconv.Itoa0
import Derived.Shelf.Strconv.Itoa1
import Derived.Shelf.LaysM
import Derived.Shelf.Strconv.Itoa2
import Derived.Shelf.Strconv.Itoa3
import Derived.Shelf.Strings.Search1
import Derived.Shelf.Strings.Runes
import Derived.Shelf.Strings.IndexAny
import Derived.Shelf.Strings.AsciiSet
import Derived.Shelf.Strings.IndexAnyAll
import Derived.Shelf.Unicode.DecodeSlow
import Derived.Ground.Names2Prog
import Derived.Shelf.Slices.Clone
import Derived.Ground.SlgmProg
import Derived.Shelf.SortM.Plain
import Derived.Shelf.SortM.SortNone
set_option linter.all false
set_option maxRecDepth 100000
set_option maxHeartbeats 8000000
open Go renaming Addr.mk->Q,Value.slice->Y,Value.string->U,Value.int->J,Value.bool->ZF,Value.agg->ZJ,Obj.cells->N,IntKind.i64->I,World->E,Ending.returned->ZI,World.heap->A,World.alloc->ZU,World.cell?->ZV,Proofs.Tryz.prog->Pg
open Option renaming none->Z,some->T
open Bool renaming false->ZA,true->ZH
open Array renaming size->B
namespace Go.Proofs
open Go.Shelf
def Tryz.lays161_ren:Go.Shelf.Ren:=⟨λ|161=>217|231=>220|227=>221|233=>222|235=>223|228=>226|197=>231|151=>232|260=>241|152=>224|137=>233|119=>234|224=>235|225=>236|217=>242|266=>245|n=>n,λ|9=>9|4=>4|3=>3|5=>5|117=>295|116=>294|0=>0|124=>298|105=>305|21=>21|119=>313|46=>233|139=>316|138=>315|n=>n,λ|3=>3|4=>4|n=>n⟩
def Tryz.lays161:Go.Proofs.Lays.n161 Pg Tryz.lays161_ren:={
 mixed:=by kernel_rfl
 f119:=Tryz.func234.k (congrArg T (by kernel_rfl))
 f137:=Tryz.func233.k (congrArg T (by kernel_rfl))
 f151:=Tryz.func232.k (congrArg T (by kernel_rfl))
 f152:=Tryz.func224.k (congrArg T (by kernel_rfl))
 f161:=Tryz.func217.k (congrArg T (by kernel_rfl))
 f197:=Tryz.func231.k (congrArg T (by kernel_rfl))
 f217:=Tryz.func242.k (congrArg T (by kernel_rfl))
 f224:=Tryz.func235.k (congrArg T (by kernel_rfl))
 f225:=Tryz.func236.k (congrArg T (by kernel_rfl))
 f227:=Tryz.func221.k (congrArg T (by kernel_rfl))
 f228:=Tryz.func226.k (congrArg T (by kernel_rfl))
 f231:=Tryz.func220.k (congrArg T (by kernel_rfl))
 f233:=Tryz.func222.k (congrArg T (by kernel_rfl))
 f235:=Tryz.func223.k (congrArg T (by kernel_rfl))
 f260:=Tryz.func241.k (congrArg T (by kernel_rfl))
 f266:=Tryz.func245.k (congrArg T (by kernel_rfl))
 t0:=Tryz.underlying0
 a0:=Tryz.isAgg0
 z0:=Tryz.sizeOf0
 v0:=Tryz.zeroValue0
 t3:=Tryz.underlying3
 a3:=Tryz.isAgg3
 z3:=Tryz.sizeOf3
 v3:=Tryz.zeroValue3
 t4:=Tryz.underlying4
 a4:=Tryz.isAgg4
 z4:=Tryz.sizeOf4
 v4:=Tryz.zeroValue4
 t5:=Tryz.underlying5
 a5:=Tryz.isAgg5
 z5:=Tryz.sizeOf5
 v5:=Tryz.zeroValue5
 t9:=Tryz.underlying9
 a9:=Tryz.isAgg9
 z9:=Tryz.sizeOf9
 v9:=Tryz.zeroValue9
 t21:=Tryz.underlying21
 a21:=Tryz.isAgg21
 z21:=Tryz.sizeOf21
 v21:=Tryz.zeroValue21
 t46:=Tryz.underlying233
 a46:=Tryz.isAgg233
 z46:=Tryz.sizeOf233
 v46:=Tryz.zeroValue233
 t105:=Tryz.underlying305
 a105:=Tryz.isAgg305
 z105:=Tryz.sizeOf305
 v105:=Tryz.zeroValue305
 t116:=Tryz.underlying294
 a116:=Tryz.isAgg294
 z116:=Tryz.sizeOf294
 t117:=Tryz.underlying295
 a117:=Tryz.isAgg295
 z117:=Tryz.sizeOf295
 v117:=Tryz.zeroValue295
 t119:=Tryz.underlying313
 a119:=Tryz.isAgg313
 z119:=Tryz.sizeOf313
 t124:=Tryz.underlying298
 a124:=Tryz.isAgg298
 z124:=Tryz.sizeOf298
 v124:=Tryz.zeroValue298
 t138:=Tryz.underlying315
 a138:=Tryz.isAgg315
 z138:=Tryz.sizeOf315
 v138:=Tryz.zeroValue315
 t139:=Tryz.underlying316
 a139:=Tryz.isAgg316
 z139:=Tryz.sizeOf316
 v139:=Tryz.zeroValue316
 g3:=by kernel_rfl
 g4:=by kernel_rfl }
def Tryz.lays119_ren:Go.Shelf.Ren:=⟨λ|119=>234|n=>n,λ|21=>21|4=>4|n=>n,λ|n=>n⟩
def Tryz.lays119:Go.Proofs.Lays.n119 Pg Tryz.lays119_ren:={
 mixed:=by kernel_rfl
 f119:=Tryz.func234.k (congrArg T (by kernel_rfl))
 t4:=Tryz.underlying4
 a4:=Tryz.isAgg4
 z4:=Tryz.sizeOf4
 v4:=Tryz.zeroValue4
 t21:=Tryz.underlying21
 a21:=Tryz.isAgg21
 z21:=Tryz.sizeOf21
 v21:=Tryz.zeroValue21 }
def Tryz.utf8_ValidRune (r:Int)(w:E):Calls Pg 234 #[J .i32 r] w λe b=>e=ZI (ZF (Lib.validRune r))/\b=w:=Any.utf8_ValidRune Tryz.lays119 r w
def Tryz.lays213_ren:Go.Shelf.Ren:=⟨λ|213=>173|265=>194|n=>n,λ|9=>9|3=>3|n=>n,λ|n=>n⟩
def Tryz.lays106_ren:Go.Shelf.Ren:=⟨λ|106=>150|213=>173|265=>194|n=>n,λ|9=>9|3=>3|n=>n,λ|n=>n⟩
def Tryz.lays106:Go.Proofs.Lays.n106 Pg Tryz.lays106_ren:={
 mixed:=by kernel_rfl
 f106:=Tryz.func150.k (congrArg T (by kernel_rfl))
 f213:=Tryz.func173.k (congrArg T (by kernel_rfl))
 f265:=Tryz.func194.k (congrArg T (by kernel_rfl))
 t3:=Tryz.underlying3
 a3:=Tryz.isAgg3
 z3:=Tryz.sizeOf3
 v3:=Tryz.zeroValue3
 t9:=Tryz.underlying9
 a9:=Tryz.isAgg9
 z9:=Tryz.sizeOf9
 v9:=Tryz.zeroValue9 }
open RowKit in
def Tryz.strings_Compare (a b:ByteArray)(w:E):Calls Pg 150 #[U a,U b] w λe f=>e=ZI (J I (Lib.compareBytes a.data.toList b.data.toList))/\f=w:=Any.strings_Compare Tryz.lays106 a b w
def Tryz.lays137_ren:Go.Shelf.Ren:=⟨λ|137=>233|217=>242|266=>245|n=>n,λ|9=>9|5=>5|3=>3|n=>n,λ|n=>n⟩
def Tryz.lays137:Go.Proofs.Lays.n137 Pg Tryz.lays137_ren:={
 mixed:=by kernel_rfl
 f137:=Tryz.func233.k (congrArg T (by kernel_rfl))
 f217:=Tryz.func242.k (congrArg T (by kernel_rfl))
 f266:=Tryz.func245.k (congrArg T (by kernel_rfl))
 t3:=Tryz.underlying3
 a3:=Tryz.isAgg3
 z3:=Tryz.sizeOf3
 v3:=Tryz.zeroValue3
 t5:=Tryz.underlying5
 a5:=Tryz.isAgg5
 z5:=Tryz.sizeOf5
 v5:=Tryz.zeroValue5
 t9:=Tryz.underlying9
 a9:=Tryz.isAgg9
 z9:=Tryz.sizeOf9
 v9:=Tryz.zeroValue9 }
open RowKit in
def Tryz.strings_IndexByte (s:ByteArray)(c:Int)(w:E):Calls Pg 233 #[U s,J .u8 c] w λe b=>e=ZI (J I (Lib.indexByte s.data.toList c.toNat.toUInt8))/\b=w:=Any.strings_IndexByte Tryz.lays137 s c w
def Tryz.lays318_ren:Go.Shelf.Ren:=⟨λ|318=>238|n=>n,λ|3=>3|4=>4|n=>n,λ|n=>n⟩
def Tryz.laysM246_ren:Go.Shelf.Ren:=⟨λ|246=>219|283=>227|284=>228|285=>229|286=>230|129=>191|317=>237|318=>238|319=>239|320=>240|337=>243|338=>244|n=>n,λ|2=>2|3=>3|9=>9|4=>4|171=>301|0=>0|53=>269|37=>22|5=>5|173=>303|212=>311|51=>267|20=>20|213=>312|46=>233|232=>317|233=>318|n=>n,λ|17=>2|18=>5|19=>6|n=>n⟩
def Tryz.laysM243_ren:Go.Shelf.Ren:=⟨λ|243=>216|246=>219|283=>227|284=>228|285=>229|286=>230|129=>191|317=>237|318=>238|319=>239|320=>240|337=>243|338=>244|n=>n,λ|3=>3|9=>9|2=>2|4=>4|171=>301|0=>0|53=>269|37=>22|5=>5|173=>303|212=>311|51=>267|20=>20|213=>312|46=>233|232=>317|233=>318|n=>n,λ|17=>2|18=>5|19=>6|n=>n⟩
def Tryz.laysM171_ren:Go.Shelf.Ren:=⟨λ|171=>211|243=>216|246=>219|283=>227|284=>228|285=>229|286=>230|129=>191|317=>237|318=>238|319=>239|320=>240|337=>243|338=>244|n=>n,λ|3=>3|9=>9|2=>2|4=>4|171=>301|0=>0|53=>269|37=>22|5=>5|173=>303|212=>311|51=>267|20=>20|213=>312|46=>233|232=>317|233=>318|n=>n,λ|17=>2|18=>5|19=>6|n=>n⟩
def Tryz.laysM171:Go.Proofs.LaysM.n171 Pg Tryz.laysM171_ren:={
 mixed:=by kernel_rfl
 f129:=Tryz.func191.k (congrArg T (by kernel_rfl))
 f171:=Tryz.func211.k (congrArg T (by kernel_rfl))
 f243:=Tryz.func216.k (congrArg T (by kernel_rfl))
 f246:=Tryz.func219.k (congrArg T (by kernel_rfl))
 f283:=Tryz.func227.k (congrArg T (by kernel_rfl))
 f284:=Tryz.func228.k (congrArg T (by kernel_rfl))
 f285:=Tryz.func229.k (congrArg T (by kernel_rfl))
 f286:=Tryz.func230.k (congrArg T (by kernel_rfl))
 f317:=Tryz.func237.k (congrArg T (by kernel_rfl))
 f318:=Tryz.func238.k (congrArg T (by kernel_rfl))
 f319:=Tryz.func239.k (congrArg T (by kernel_rfl))
 f320:=Tryz.func240.k (congrArg T (by kernel_rfl))
 f337:=Tryz.func243.k (congrArg T (by kernel_rfl))
 f338:=Tryz.func244.k (congrArg T (by kernel_rfl))
 t0:=Tryz.underlying0
 a0:=Tryz.isAgg0
 z0:=Tryz.sizeOf0
 v0:=Tryz.zeroValue0
 t2:=Tryz.underlying2
 a2:=Tryz.isAgg2
 z2:=Tryz.sizeOf2
 v2:=Tryz.zeroValue2
 t3:=Tryz.underlying3
 a3:=Tryz.isAgg3
 z3:=Tryz.sizeOf3
 v3:=Tryz.zeroValue3
 t4:=Tryz.underlying4
 a4:=Tryz.isAgg4
 z4:=Tryz.sizeOf4
 v4:=Tryz.zeroValue4
 t5:=Tryz.underlying5
 a5:=Tryz.isAgg5
 z5:=Tryz.sizeOf5
 v5:=Tryz.zeroValue5
 t9:=Tryz.underlying9
 a9:=Tryz.isAgg9
 z9:=Tryz.sizeOf9
 v9:=Tryz.zeroValue9
 t20:=Tryz.underlying20
 a20:=Tryz.isAgg20
 z20:=Tryz.sizeOf20
 v20:=Tryz.zeroValue20
 t37:=Tryz.underlying22
 a37:=Tryz.isAgg22
 z37:=Tryz.sizeOf22
 v37:=Tryz.zeroValue22
 t46:=Tryz.underlying233
 a46:=Tryz.isAgg233
 z46:=Tryz.sizeOf233
 v46:=Tryz.zeroValue233
 t51:=Tryz.underlying267
 a51:=Tryz.isAgg267
 z51:=Tryz.sizeOf267
 v51:=Tryz.zeroValue267
 t53:=Tryz.underlying269
 a53:=Tryz.isAgg269
 z53:=Tryz.sizeOf269
 v53:=Tryz.zeroValue269
 t171:=Tryz.underlying301
 a171:=Tryz.isAgg301
 z171:=Tryz.sizeOf301
 v171:=Tryz.zeroValue301
 t173:=Tryz.underlying303
 a173:=Tryz.isAgg303
 z173:=Tryz.sizeOf303
 v173:=Tryz.zeroValue303
 t212:=Tryz.underlying311
 a212:=Tryz.isAgg311
 z212:=Tryz.sizeOf311
 v212:=Tryz.zeroValue311
 t213:=Tryz.underlying312
 a213:=Tryz.isAgg312
 z213:=Tryz.sizeOf312
 t232:=Tryz.underlying317
 a232:=Tryz.isAgg317
 z232:=Tryz.sizeOf317
 v232:=Tryz.zeroValue317
 t233:=Tryz.underlying318
 a233:=Tryz.isAgg318
 z233:=Tryz.sizeOf318
 v233:=Tryz.zeroValue318
 g17:=by kernel_rfl
 g18:=by kernel_rfl
 g19:=by kernel_rfl
 i0:=by kernel_rfl
 i2:=by kernel_rfl
 i3:=by kernel_rfl
 i4:=by kernel_rfl
 i5:=by kernel_rfl
 i9:=by kernel_rfl
 i20:=by kernel_rfl
 i37:=by kernel_rfl
 i46:=by kernel_rfl
 i51:=by kernel_rfl
 i53:=by kernel_rfl
 i171:=by kernel_rfl
 i173:=by kernel_rfl
 i212:=by kernel_rfl
 i232:=by kernel_rfl
 i233:=by kernel_rfl
 m17:=by kernel_rfl
 m18:=by kernel_rfl
 m19:=by kernel_rfl }
open RowKit Go.Sort Go.Lib in
def Tryz.strconv_Itoa (n:Int)(g:-9223372036854775808<=n)(h1:n<=9223372036854775807)(w:E)(b:Lib.TabIs Pg w "internal/strconv.uint64pow10" .u64 Lib.pow10Tab):Calls Pg 211 #[J I n] w λe f=>e=ZI (U ⟨(Lib.itoa n).toArray⟩)/\∃k os,f=grow (w.drewN k) os:=Any.strconv_Itoa Tryz.laysM171 n g h1 w b
def Tryz.lays152_ren:Go.Shelf.Ren:=⟨λ|152=>224|137=>233|119=>234|224=>235|225=>236|217=>242|266=>245|n=>n,λ|9=>9|21=>21|3=>3|4=>4|5=>5|0=>0|46=>233|n=>n,λ|n=>n⟩
def Tryz.lays152:Go.Proofs.Lays.n152 Pg Tryz.lays152_ren:={
 mixed:=by kernel_rfl
 f119:=Tryz.func234.k (congrArg T (by kernel_rfl))
 f137:=Tryz.func233.k (congrArg T (by kernel_rfl))
 f152:=Tryz.func224.k (congrArg T (by kernel_rfl))
 f217:=Tryz.func242.k (congrArg T (by kernel_rfl))
 f224:=Tryz.func235.k (congrArg T (by kernel_rfl))
 f225:=Tryz.func236.k (congrArg T (by kernel_rfl))
 f266:=Tryz.func245.k (congrArg T (by kernel_rfl))
 t0:=Tryz.underlying0
 a0:=Tryz.isAgg0
 z0:=Tryz.sizeOf0
 v0:=Tryz.zeroValue0
 t3:=Tryz.underlying3
 a3:=Tryz.isAgg3
 z3:=Tryz.sizeOf3
 v3:=Tryz.zeroValue3
 t4:=Tryz.underlying4
 a4:=Tryz.isAgg4
 z4:=Tryz.sizeOf4
 v4:=Tryz.zeroValue4
 t5:=Tryz.underlying5
 a5:=Tryz.isAgg5
 z5:=Tryz.sizeOf5
 v5:=Tryz.zeroValue5
 t9:=Tryz.underlying9
 a9:=Tryz.isAgg9
 z9:=Tryz.sizeOf9
 v9:=Tryz.zeroValue9
 t21:=Tryz.underlying21
 a21:=Tryz.isAgg21
 z21:=Tryz.sizeOf21
 v21:=Tryz.zeroValue21
 t46:=Tryz.underlying233
 a46:=Tryz.isAgg233
 z46:=Tryz.sizeOf233
 v46:=Tryz.zeroValue233 }
open RowKit Go.Lib in
def Tryz.strings_IndexRune_ascii (s:ByteArray)(r:Int)(w:E)(f:0<=r)(h1:r<128):Calls Pg 224 #[U s,J .i32 r] w λe b=>e=ZI (J I (Lib.indexByte s.data.toList r.toNat.toUInt8))/\b=w:=Any.strings_IndexRune_ascii Tryz.lays152 s r w f h1
def Tryz.lays226_ren:Go.Shelf.Ren:=⟨λ|226=>225|n=>n,λ|3=>3|4=>4|n=>n,λ|n=>n⟩
def Tryz.lays226:Go.Proofs.Lays.n226 Pg Tryz.lays226_ren:={
 mixed:=by kernel_rfl
 f226:=Tryz.func225.k (congrArg T (by kernel_rfl))
 t3:=Tryz.underlying3
 a3:=Tryz.isAgg3
 z3:=Tryz.sizeOf3
 v3:=Tryz.zeroValue3
 t4:=Tryz.underlying4
 a4:=Tryz.isAgg4
 z4:=Tryz.sizeOf4
 v4:=Tryz.zeroValue4 }
open RowKit Go.Lib in
def Tryz.strings_shouldUseASCIISet (n:Int)(w:E):Calls Pg 225 #[J I n] w λe b=>e=ZI (ZF (decide (8<n)))/\b=w:=Any.strings_shouldUseASCIISet Tryz.lays226 n w
def Tryz.lays153_ren:Go.Shelf.Ren:=⟨λ|153=>218|152=>224|226=>225|227=>221|228=>226|137=>233|119=>234|224=>235|225=>236|217=>242|266=>245|n=>n,λ|9=>9|3=>3|4=>4|5=>5|21=>21|117=>295|116=>294|0=>0|46=>233|124=>298|n=>n,λ|n=>n⟩
def Tryz.lays153:Go.Proofs.Lays.n153 Pg Tryz.lays153_ren:={
 mixed:=by kernel_rfl
 f119:=Tryz.func234.k (congrArg T (by kernel_rfl))
 f137:=Tryz.func233.k (congrArg T (by kernel_rfl))
 f152:=Tryz.func224.k (congrArg T (by kernel_rfl))
 f153:=Tryz.func218.k (congrArg T (by kernel_rfl))
 f217:=Tryz.func242.k (congrArg T (by kernel_rfl))
 f224:=Tryz.func235.k (congrArg T (by kernel_rfl))
 f225:=Tryz.func236.k (congrArg T (by kernel_rfl))
 f226:=Tryz.func225.k (congrArg T (by kernel_rfl))
 f227:=Tryz.func221.k (congrArg T (by kernel_rfl))
 f228:=Tryz.func226.k (congrArg T (by kernel_rfl))
 f266:=Tryz.func245.k (congrArg T (by kernel_rfl))
 t0:=Tryz.underlying0
 a0:=Tryz.isAgg0
 z0:=Tryz.sizeOf0
 v0:=Tryz.zeroValue0
 t3:=Tryz.underlying3
 a3:=Tryz.isAgg3
 z3:=Tryz.sizeOf3
 v3:=Tryz.zeroValue3
 t4:=Tryz.underlying4
 a4:=Tryz.isAgg4
 z4:=Tryz.sizeOf4
 v4:=Tryz.zeroValue4
 t5:=Tryz.underlying5
 a5:=Tryz.isAgg5
 z5:=Tryz.sizeOf5
 v5:=Tryz.zeroValue5
 t9:=Tryz.underlying9
 a9:=Tryz.isAgg9
 z9:=Tryz.sizeOf9
 v9:=Tryz.zeroValue9
 t21:=Tryz.underlying21
 a21:=Tryz.isAgg21
 z21:=Tryz.sizeOf21
 v21:=Tryz.zeroValue21
 t46:=Tryz.underlying233
 a46:=Tryz.isAgg233
 z46:=Tryz.sizeOf233
 v46:=Tryz.zeroValue233
 t116:=Tryz.underlying294
 a116:=Tryz.isAgg294
 z116:=Tryz.sizeOf294
 t117:=Tryz.underlying295
 a117:=Tryz.isAgg295
 z117:=Tryz.sizeOf295
 v117:=Tryz.zeroValue295
 t124:=Tryz.underlying298
 a124:=Tryz.isAgg298
 z124:=Tryz.sizeOf298
 v124:=Tryz.zeroValue298 }
open RowKit Go.Lib in
def Tryz.strings_IndexAny_long (h:∀w,(zeroValue 294).run Pg w=.ok (ZJ (Array.replicate 256 (ZF ZA))) w)(s f:ByteArray)(w:E)(h2:2<=f.size)(l:8<s.size)(m:s.size<4294967281)(i:f.size<4294967281)(g:∀(j:Nat) b,f.data.toList[j]?=T b->b.toNat<128):Calls Pg 218 #[U s,U f] w λe n=>e=ZI (J I (Lib.indexAny s.data.toList f.data.toList))/\n=((w.alloc (N (Lib.setCells f.data.toList) 294)).alloc (N (Lib.setCells f.data.toList) 294)):=Any.strings_IndexAny_long Tryz.lays153 h (by kernel_rfl) s f w h2 l m i g
def Tryz.laysNm216_ren:Go.Shelf.Ren:=⟨λ|16=>166|n=>n,λ|24=>43|9=>9|4=>4|n=>n,λ|n=>n⟩
def Tryz.laysNm216:Go.Proofs.Lays2.n16 Pg Tryz.laysNm216_ren:={
 mixed:=by kernel_rfl
 f16:=Tryz.func166.k (congrArg T (by kernel_rfl))
 t4:=Tryz.underlying4
 a4:=Tryz.isAgg4
 z4:=Tryz.sizeOf4
 v4:=Tryz.zeroValue4
 t9:=Tryz.underlying9
 a9:=Tryz.isAgg9
 z9:=Tryz.sizeOf9
 v9:=Tryz.zeroValue9
 t24:=Tryz.underlying43
 a24:=Tryz.isAgg43
 z24:=Tryz.sizeOf43
 v24:=Tryz.zeroValue43
 i9:=by kernel_rfl }
open RowKit Go.Lib in
def Tryz.slices_Clone_string (b off n c:Nat)(zs:List ByteArray)(w:E)(hz:n<=zs.length)(f:n*16<=140737488355328)(i:∀j,j<zs.length->ZV w (Q b (off+j) Z)=T (U (zs.getD j ByteArray.empty))):Calls Pg 166 #[Y (T (Q b off Z)) n c] w λe h=>∃g,e=ZI g/\h.ownsRow (B (A w)) 9 1 g n ((zs.take n).map (Value.string))/\g≠.slice Z 0 0/\Below (B (A w)) w h:=Any.slices_Clone_string Tryz.laysNm216 b off n c zs w hz f i
end Go.Proofs
namespace Go.Proofs.YthkgkfehliinfaaGreatDoor.Vp
open RowKit Go.Sort
def oz:∀a b:List UInt8,decide (Lib.compareBytes a b<0)=Op.bytesLess a b
 |[],[]=>by simp[Lib.compareBytes,Op.bytesLess]
 |[],_::_=>by simp[Lib.compareBytes,Op.bytesLess]
 |_::_,[]=>by simp[Lib.compareBytes,Op.bytesLess]
 |a::x,b::y=>by
  have g:=oz x y;rw[Lib.compareBytes,Op.bytesLess,<-g];by_cases h1:a<b
  ·simp[h1]
  ·rw[eI h1]
   by_cases h2:b<a
   ·have f:¬ a=b:=λe=>by subst e;exact h1 h2
    simp[h1,h2,f]
   ·have f:a=b:=UInt8.le_antisymm (VY.1 h2) (VY.1 h1)
    subst f;simp[h1]
def lS:∀a b:List UInt8,decide (Lib.compareBytes a b=0)=(a == b)
 |[],[]=>by simp[Lib.compareBytes]
 |[],_::_=>by simp[Lib.compareBytes]
 |_::_,[]=>by simp[Lib.compareBytes]
 |a::x,b::y=>by
  have g:=lS x y;rw[Lib.compareBytes];by_cases h1:a<b
  ·have f:¬ a=b:=λe=>by subst e;exact(UInt8.lt_irrefl _ h1)
   simp[h1,f]
  ·rw[eI h1]
   by_cases h2:b<a
   ·have f:¬ a=b:=λe=>by subst e;exact h1 h2
    simp[h2,f]
   ·have f:a=b:=UInt8.le_antisymm (VY.1 h2) (VY.1 h1)
    subst f;rw[eI h2,g];simp
def uD (a b:F_):∃z:Int,Lib.compareBytes a.data.toList b.data.toList=z/\decide (z<0)=aC a b/\decide (z=0)=(a.toList == b.toList):=by
 refine⟨_,rfl,?_,?_⟩;{rw[oz];simp only[aC,NM]};{rw[lS];simp only[NM]}
def j9 (nm tx:F_)(t:F_)(w:E):Calls Pg 149 #[ZJ #[U nm,U tx],U t] w λe g=>∃z:Int,e=ZI (J I z)/\decide (z<0)=aC nm t/\decide (z=0)=(nm.toList == t.toList)/\Below (B (A w)) w g:=by have f:=ae ((BS w).alloc ly (N #[U nm,U tx] 91));obtain⟨z,hz,h1,h2⟩:=uD nm t;have i:=ae hz;have b:=ae h1;have h:=ae h2;clear hz h1 h2;go_enter Tryz.func149,Tryz.ntmps149;go_wp2_with fail;refine(Tryz.strings_Compare nm t _).P ?_;rintro e w1⟨rfl,rfl⟩;rw[i.i];go_wp2;go_ret;exact⟨z,rfl,b,h,f⟩
def ke (nm:F_)(a:O_)(k d:Nat)(t:F_)(w:E):Calls Pg 152 #[ZJ #[U nm,Y a k d],U t] w λe g=>∃z:Int,e=ZI (J I z)/\decide (z<0)=aC nm t/\decide (z=0)=(nm.toList == t.toList)/\Below (B (A w)) w g:=by have f:=ae ((BS w).alloc ly (N #[U nm,Y a k d] 95));obtain⟨z,hz,h1,h2⟩:=uD nm t;have i:=ae hz;have b:=ae h1;have h:=ae h2;clear hz h1 h2;go_enter Tryz.func152,Tryz.ntmps152;go_wp2_with fail;refine(Tryz.strings_Compare nm t _).P ?_;rintro e w1⟨rfl,rfl⟩;rw[i.i];go_wp2;go_ret;exact⟨z,rfl,b,h,f⟩
def IJ (s:Bool)(w:E)(b off n:Nat)(g:B_):Prop:=b<B (A w)/\∀i,i<n->ZV w (Q b (off+i*2) Z)=T (U (g i))/\∃u,ZV w (Q b (off+i*2+1) Z)=T u/\if s=ZH then ∃x,u=U x else ∃a k d,u=Y a k d
def Eo (s:Bool)(b off n j_:Nat)(g:B_)(t:F_)(w:E)(hn:(n:Int)<=1048576)(V:IJ s w b off n g)(S:aK g n=ZH):Calls Pg (if s=ZH then 148 else 151) #[Y (T (Q b off Z)) n j_,U t,.func (.func (if s=ZH then 149 else 152)) #[] #[]] w λe ZL=>∃i:Nat,e=ZI (.tuple #[J I (i:Int),ZF (aF g n t)])/\i<=n/\(∀m,m<i->aC (g m) t=ZH)/\(∀m,i<=m->m<n->aC (g m) t=ZA)/\Below (B (A w)) w ZL:=by
 have l:=ae V;have ZP:=ae S;clear V S;obtain⟨ZS,H⟩:∃ZS,ZS=aF g n t:=⟨_,rfl⟩
 rw[<-H];have ZN:=ae H;clear H;cases s
 all_goals simp only[Y2,Bool.false_eq_true,UI]
 focus go_enter Tryz.func151,Tryz.ntmps151
 rotate_left;focus go_enter Tryz.func148,Tryz.ntmps148
 all_goals
  go_wp2;go_loopw [9,10] (λi j wr=>∃p q:Nat,p<=q/\q<=n/\i=J I p/\j=J I q/\Hid (∀m,m<p->aC (g m) t=ZH)/\Hid (∀m,q<=m->m<n->aC (g m) t=ZA)/\Hid (Below (B (A w)) w wr)) (λi j _=>(intOf j).toNat - (intOf i).toNat);case atStart=>exact⟨0,n,by omega,by omega,rfl,rfl,λm P=>absurd P (NF _),λm h1 h2=>by omega,a8 _ _⟩
  case round =>
   obtain⟨p,q,hpq,D,rfl,rfl,ZR,K,f⟩:=hrel;by_cases hlt:p<q
   ·obtain⟨m,P⟩:∃m:Nat,m=(p+q) / 2:=⟨_,rfl⟩
    have X:p<=m:=by omega
    have hm2:m<q:=by omega
    obtain⟨ZW,u,G,ZT⟩:=l.2 m (by omega);replace ZW:=(f.O (p:=(Q b _ Z)) l.1).k ZW;replace G:=(f.O (p:=(Q b _ Z)) l.1).k G;have ZM:=lj l.1 f.size;first|obtain⟨x,rfl⟩:=ZT|obtain⟨x,y,O,rfl⟩:=ZT
    have hsh:((p:Int)+q) / 2=m:=by omega
    clear P;go_wp2_with fail;first|(go_at_call 149;refine(j9 (g m) x t _).P ?_)|(go_at_call 152;refine(ke (g m) x y O t _).P ?_)
    rintro e w1⟨z,rfl,M,_,r⟩;have ZO:=ae M;have h:=ae (f.k (r.P f.size));clear M r;by_cases hz:z<0
    ·have C:Hid (aC (g m) t=ZH):=by show _=_;rw[<-ZO.i];exact QD hz
     go_wp2;refine⟨⟨m+1,q,by omega,D,by go_num,rfl,λx W=>?_,K,h⟩,by simp[intOf];omega⟩;by_cases e:x=m
     ·subst e;exact C
     ·exact eY (gZ ZP (show x<m by omega) (by omega)) C
    ·have C:Hid (aC (g m) t=ZA):=by show _=_;rw[<-ZO.i];exact U8 hz
     go_wp2;refine⟨⟨p,m,X,by omega,rfl,rfl,ZR,λx h1 h2=>?_,h⟩,by simp[intOf];omega⟩;by_cases e:x=m
     ·subst e;exact C
     ·cases W:aC (g x) t with
      |false=>rfl
      |true =>have:=eY (gZ ZP (show m<x by omega) h2) W;rw[C.i] at this;cases this
   ·have e:p=q:=by omega
    subst e;have R:=ae (ZN.k (kU ZP D ZR K));by_cases ZX:p<n
    ·have hlt3:(p:Int)<n:=by omega
     obtain⟨ZW,u,G,ZT⟩:=l.2 p ZX;replace ZW:=(f.O (p:=(Q b _ Z)) l.1).k ZW;replace G:=(f.O (p:=(Q b _ Z)) l.1).k G;have ZM:=lj l.1 f.size;first|obtain⟨x,rfl⟩:=ZT|obtain⟨x,y,O,rfl⟩:=ZT
     go_wp2_with fail;first|(go_at_call 149;refine(j9 (g p) x t _).P ?_)|(go_at_call 152;refine(ke (g p) x y O t _).P ?_)
     rintro e w1⟨z,rfl,_,ZQ,r⟩;have h:=ae (f.k (r.P f.size));have L:Hid (ZS=decide (z=0)):=by show ZS=_;rw[R.i,ZQ];simp[ZX]
     clear ZQ r;by_cases hz:z=0
     ·have o:ZS=ZH:=by rw[L.i];exact QD hz
      subst o;subst hz;go_wp2;exact bp (v:=.tuple #[J I p,ZF ZH]) (by simp[results,XJ,XK,go_sem]) rfl ⟨p,rfl,D,ZR,K,h⟩
     ·have o:ZS=ZA:=by rw[L.i];exact U8 hz
      subst o;have hz':(z == 0)=ZA:=by simpa using hz
      go_wp2;exact bp (v:=.tuple #[J I p,ZF ZA]) (by simp[results,XJ,XK,go_sem]) rfl ⟨p,rfl,D,ZR,K,h⟩
    ·have o:ZS=ZA:=by rw[R.i];simp[ZX]
     subst o;have hge:¬ (p:Int)<n:=by omega
     go_wp2;exact bp (v:=.tuple #[J I p,ZF ZA]) (by simp[results,XJ,XK,go_sem]) rfl ⟨p,rfl,D,ZR,K,f⟩
def Ep (s:Bool)(a:O_)(j_:Nat)(g:B_)(t:F_)(w:E):Calls Pg (if s=ZH then 148 else 151) #[Y a 0 j_,U t,.func (.func (if s=ZH then 149 else 152)) #[] #[]] w λe b=>e=ZI (.tuple #[J I 0,ZF (aF g 0 t)])/\b=w:=by
 rw[iS];cases s
 all_goals simp only[Y2,Bool.false_eq_true,UI]
 focus go_enter Tryz.func151,Tryz.ntmps151
 rotate_left;focus go_enter Tryz.func148,Tryz.ntmps148
 all_goals
  go_wp2;go_loop [9,10] (λi j=>i=J I 0/\j=J I 0) (λ_ _=>0);case atStart=>exact⟨rfl,rfl⟩
  case round =>obtain⟨rfl,rfl⟩:=hrel;go_wp2;exact bp (v:=.tuple #[J I 0,ZF ZA]) (by simp[results,XJ,XK,go_sem]) rfl ⟨rfl,rfl⟩
def uE (s:Bool)(a:O_)(n j_:Nat)(g:B_)(t:F_)(w:E)(hn:(n:Int)<=1048576)(f:n=0\/∃b off,a=T (Q b off Z)/\IJ s w b off n g)(p:aK g n=ZH):Calls Pg (if s=ZH then 148 else 151) #[Y a n j_,U t,.func (.func (if s=ZH then 149 else 152)) #[] #[]] w λe j=>∃i:Nat,e=ZI (.tuple #[J I (i:Int),ZF (aF g n t)])/\i<=n/\(∀m,m<i->aC (g m) t=ZH)/\(∀m,i<=m->m<n->aC (g m) t=ZA)/\Below (B (A w)) w j:=by
 rcases f with rfl|⟨b,off,rfl,f⟩
 {exact(Ep s a j_ _ t w).P λe j ⟨o,l⟩=>⟨0,o,by omega,λm h=>absurd h (NF _),λm _ h=>absurd h (NF _),by rw[l];exact a8 _ _⟩};{exact Eo s b off n j_ g t w hn f p}
def fe (a0:O_)(n0 c0:Nat)(a1:O_)(n1 c1:Nat)(f:Nat->Source)(t:F_)(w:E)(hn:(n0:Int)<=1048576)(l:Qx w a0 n0 f)(p:aK (nm0 f) n0=ZH):Calls Pg 114 #[ZJ #[Y a0 n0 c0,Y a1 n1 c1],U t] w λe x=>∃i:Nat,e=ZI (.tuple #[J I (i:Int),ZF (aF (nm0 f) n0 t)])/\i<=n0/\(∀m,m<i->aC (nm0 f m) t=ZH)/\(∀m,i<=m->m<n0->aC (nm0 f m) t=ZA)/\Below (B (A w)) w x:=by
 have n:=ae ((BS w).alloc ly (N #[Y a0 n0 c0,Y a1 n1 c1] 29));have s:=ae (l.aa n ly);have z:=ae p;clear l p;obtain⟨ZS,g⟩:∃ZS,ZS=aF (nm0 f) n0 t:=⟨_,rfl⟩
 rw[<-g];have q:=ae g;clear g;go_enter Tryz.func114,Tryz.ntmps114;go_wp2_with fail;refine(uE ZH a0 n0 c0 (nm0 f) t _ hn (s.i.imp id λ⟨b,o,e,h⟩=>⟨b,o,e,h.1,λi hi=>⟨(h.2 i hi).1,_,(h.2 i hi).2,_,rfl⟩⟩) z).P ?_;rintro e w1⟨i,rfl,hi,h1,h2,j⟩;rw[<-q.i];have u:=ae h1;have y:=ae h2;have r:=ae (n.k (j.P (by simp)));clear h1 h2 j;go_wp2;exact bp (v:=.tuple #[J I i,ZF ZS]) (by simp[results,Tryz.results114,go_sem]) rfl ⟨i,rfl,hi,u,y,r⟩
def fU (a0:O_)(n0 c0:Nat)(a1:O_)(n1 c1:Nat)(f:Nat->Target)(t:F_)(w:E)(hn:(n1:Int)<=1048576)(l:Qq w a1 n1 f)(n:aK (nm1 f) n1=ZH):Calls Pg 115 #[ZJ #[Y a0 n0 c0,Y a1 n1 c1],U t] w λe y=>∃i:Nat,e=ZI (.tuple #[J I (i:Int),ZF (aF (nm1 f) n1 t)])/\i<=n1/\(∀m,m<i->aC (nm1 f m) t=ZH)/\(∀m,i<=m->m<n1->aC (nm1 f m) t=ZA)/\Below (B (A w)) w y:=by
 have p:=ae ((BS w).alloc ly (N #[Y a0 n0 c0,Y a1 n1 c1] 29));have x:=ae (l.aa p ly);have u:=ae n;clear l n;obtain⟨ZS,g⟩:∃ZS,ZS=aF (nm1 f) n1 t:=⟨_,rfl⟩
 rw[<-g];have q:=ae g;clear g;go_enter Tryz.func115,Tryz.ntmps115;go_wp2_with fail
 refine(uE ZA a1 n1 c1 (nm1 f) t _ hn (x.i.imp id λ⟨b,o,e,h⟩=>⟨b,o,e,h.1,λi hi=>by
  obtain⟨r,ka,kc,h1,_⟩:=h.2 i hi
  exact⟨r,_,h1,_,_,_,rfl⟩⟩) u).P ?_
 rintro e w1⟨i,rfl,hi,h1,h2,j⟩;rw[<-q.i];have ZX:=ae h1;have s:=ae h2;have z:=ae (p.k (j.P (by simp)));clear h1 h2 j;go_wp2;exact bp (v:=.tuple #[J I i,ZF ZS]) (by simp[results,Tryz.results115,go_sem]) rfl ⟨i,rfl,hi,ZX,s,z⟩
def rC (a0:O_)(n0 c0:Nat)(f0:Nat->Source)(a1:O_)(n1 c1:Nat)(f1:Nat->Target)(t:F_)(w:E)(hn0:(n0:Int)<=1048576)(hn1:(n1:Int)<=1048576)(h:Qx w a0 n0 f0)(m:Qq w a1 n1 f1)(n:aK (nm0 f0) n0=ZH)(l:aK (nm1 f1) n1=ZH):Calls Pg 117 #[ZJ #[Y a0 n0 c0,Y a1 n1 c1],U t] w λe G=>e=ZI (ZF (aF (nm0 f0) n0 t || aF (nm1 f1) n1 t))/\Below (B (A w)) w G:=by
 have f:=ae ((BS w).alloc ly (N #[Y a0 n0 c0,Y a1 n1 c1] 29));have u:ZV (ZU w (N #[Y a0 n0 c0,Y a1 n1 c1] 29)) (Q (B (A w)) 0 Z)=T (Y a0 n0 c0):=by simp
 have s:ZV (ZU w (N #[Y a0 n0 c0,Y a1 n1 c1] 29)) (Q (B (A w)) 1 Z)=T (Y a1 n1 c1):=by simp
 have K:=ae (h.aa f ly);have ZW:=ae (m.aa f ly);have C:=ae n;have D:=ae l;clear h m n l;obtain⟨ZS,o⟩:∃ZS,ZS=aF (nm0 f0) n0 t:=⟨_,rfl⟩
 obtain⟨ZR,q⟩:∃ZR,ZR=aF (nm1 f1) n1 t:=⟨_,rfl⟩
 rw[<-o,<-q];have r:=ae o;have y:=ae q;clear o q;go_enter Tryz.func117,Tryz.ntmps117;go_wp2_with fail;refine(fe a0 n0 c0 a1 n1 c1 f0 t _ hn0 K C).P ?_;rintro e w1⟨i,rfl,_,_,_,b⟩;have H:=(b.O (p:=(Q (B (A w)) 0 Z)) (by simp)).k u;have ZX:=(b.O (p:=(Q (B (A w)) 1 Z)) (by simp)).k s;have z:=ae (ZW.aa b ly);have x:=ae (f.k (b.P (by simp)));clear b u s f;rw[<-r.i];go_wp2_with fail;refine(fU a0 n0 c0 a1 n1 c1 f1 t _ hn1 z D).P ?_;rintro e w2⟨j,rfl,_,_,_,g⟩;have ZT:=ae (x.k (g.P x.size));clear g H ZX;rw[<-y.i];clear r y;cases ZS
 all_goals
  go_wp2;go_ret;exact⟨rfl,ZT⟩
def xg (x:Link)(hb:Nat)(h:O_)(n0 t:Nat)(f0:Nat->Source)(g:O_)(n1 l:Nat)(f1:Nat->Target)(w:E)(s:hb<B (A w))(ZR:ZV w (Q hb 1 Z)=T (Y h n0 t))(K:ZV w (Q hb 2 Z)=T (Y g n1 l))(hn0:(n0:Int)<=1048576)(hn1:(n1:Int)<=1048576)(y:Qx w h n0 f0)(u:Qq w g n1 f1)(m:aK (nm0 f0) n0=ZH)(n:aK (nm1 f1) n1=ZH):Calls Pg 119 #[ZJ #[U x.e,ZF x.ask,ZF x.has,J I x.G],.pointer (T (Q hb 0 Z))] w λe ZP=>e=ZI (ZF (dY n0 f0 n1 f1 x))/\Below (B (A w)) w ZP:=by
 have b:=ae ((BS w).alloc ly (N #[U x.e,ZF x.ask,ZF x.has,J I x.G] 74));obtain⟨r,ZT⟩:∃r,r=dY n0 f0 n1 f1 x:=⟨_,rfl⟩
 rw[<-ZT];have C:=ae (show r=(!x.ask && !(x.has == hZ n0 f0 n1 f1 x.e)) from ZT);have i:=ae (y.aa b.i ly);have j:=ae (u.aa b.i ly);have H:=ae m;have M:=ae n;clear ZT y u m n;cases hq:x.ask with
 |true =>
  obtain rfl:r=ZA:=by rw[C.i,hq];rfl
  rw[hq] at b;go_enter Tryz.func119,Tryz.ntmps119;go_wp2_with fail;go_quiet (fail);go_wp2;go_ret;exact⟨rfl,AD b.i _⟩
 |false =>
  have ZW:Hid (r=!(x.has == hZ n0 f0 n1 f1 x.e)):=by show _=_;rw[C.i,hq];rfl
  rw[hq] at b i j;obtain⟨c,o⟩:∃c,c=x.has:=⟨_,rfl⟩
  rw[<-o] at b i j ZW ⊢;clear o C;have ZX:=ae (λW (f:Below (B (A (ZU w (N #[U x.e,ZF ZA,ZF c,J I x.G] 74)))) (ZU w (N #[U x.e,ZF ZA,ZF c,J I x.G] 74)) W)=>rC h n0 t f0 g n1 l f1 x.e W hn0 hn1 (i.i.aa f ly) (j.i.aa f ly) H.i M.i);have m0:ZV (ZU w (N #[U x.e,ZF ZA,ZF c,J I x.G] 74)) (Q (B (A w)) 0 Z)=T (U x.e):=by simp
  have P:ZV (ZU w (N #[U x.e,ZF ZA,ZF c,J I x.G] 74)) (Q (B (A w)) 1 Z)=T (ZF ZA):=by simp
  have D:ZV (ZU w (N #[U x.e,ZF ZA,ZF c,J I x.G] 74)) (Q (B (A w)) 2 Z)=T (ZF c):=by simp
  have O:=(b.i.O (p:=(Q hb 1 Z)) s).k ZR;have ZQ:=(b.i.O (p:=(Q hb 2 Z)) s).k K;have hz:B (A w)<B (A (ZU w (N #[U x.e,ZF ZA,ZF c,J I x.G] 74))):=by simp
  have ZS:hb<B (A (ZU w (N #[U x.e,ZF ZA,ZF c,J I x.G] 74))):=by omega
  have z:Hid (r=!(c == (aF (nm0 f0) n0 x.e || aF (nm1 f1) n1 x.e))):=ZW.i;generalize (aF (nm0 f0) n0 x.e || aF (nm1 f1) n1 x.e)=q at ZX z;clear i j ZW;go_enter Tryz.func119,Tryz.ntmps119;go_wp2_with fail;generalize World.alloc w _=W at b ZX m0 P D O ZQ hz ZS ⊢;have K0:=ae (And.intro D (And.intro O ZQ))
  go_region_with (first
   |(go_at_call 117;refine(ZX.i _ ?_).P ?_;(first|exact a8 _ _|exact br.drew);rintro e L⟨rfl,f⟩;have G:Hid (Below (B (A W)) W L):=⟨f.os,f.tape,f.output,f.size,f.p⟩;have y2:=(G.i.O (p:=(Q (B (A w)) 2 Z)) hz).k D;have hz1:B (A w)<B (A L):=lj hz G.i.size;clear f))
  all_goals
   go_simp;go_wp2;go_ret;exact⟨by simp[z.i],b.i.k (G.i.P b.i.size)⟩
def tN (b off m c:Nat)(h:Nat->Link)(hb:Nat)(n:O_)(n0 ZX:Nat)(f0:Nat->Source)(j:O_)(n1 q:Nat)(f1:Nat->Target)(w:E)(hm:(m:Int)<=1048576)(l:RowLink w b off m h)(g:hb<B (A w))(y:ZV w (Q hb 1 Z)=T (Y n n0 ZX))(z:ZV w (Q hb 2 Z)=T (Y j n1 q))(hn0:(n0:Int)<=1048576)(hn1:(n1:Int)<=1048576)(C:Qx w n n0 f0)(ZW:Qq w j n1 f1)(s:aK (nm0 f0) n0=ZH)(t:aK (nm1 f1) n1=ZH):Calls Pg 153 #[Y (T (Q b off Z)) m c,.func (.func 119) #[] #[.pointer (T (Q hb 0 Z))]] w λe L=>∃r:Int,e=ZI (J I r)/\decide (0<=r)=aM (λk=>dY n0 f0 n1 f1 (h k)) m/\Below (B (A w)) w L:=by
 have ZS:=ae l;have ZQ:=ae (λW (f:Below (B (A w)) w W) x=>xg x hb n n0 ZX f0 j n1 q f1 W (lj g f.size) ((f.O (p:=(Q hb 1 Z)) g).k y) ((f.O (p:=(Q hb 2 Z)) g).k z) hn0 hn1 (C.aa f ly) (ZW.aa f ly) s t);clear l C ZW s t y z g;go_enter Tryz.func153,Tryz.ntmps153;go_wp2;go_loopw [8] (λi wr=>∃k:Nat,k<=m/\i=J I k/\Hid (aM (λk=>dY n0 f0 n1 f1 (h k)) k=ZA)/\Hid (Below (B (A w)) w wr)) (λi _=>m - (intOf i).toNat);case atStart=>exact⟨0,by omega,rfl,rfl,a8 _ _⟩
 case round =>
  obtain⟨k,hk,rfl,ZT,o⟩:=hrel;by_cases u:k<m
  ·obtain⟨H,M,ZR,K⟩:=(ZS.i.aa o.i ly).2 k u;go_wp2_with fail;go_at_call 119;refine(ZQ.i _ o.i (h k)).P ?_;rintro e w1⟨rfl,f⟩;have G:=ae (o.i.k (f.P o.i.size));clear f H M ZR K;cases hq:dY n0 f0 n1 f1 (h k) with
   |true =>have D:=ae hq;clear hq;go_wp2;go_ret;exact⟨k,rfl,by rw[cS (p:=λk=>dY n0 f0 n1 f1 (h k)) u D.i];simp,G.i⟩
   |false =>have D:=ae hq;clear hq;go_wp2;exact⟨⟨k+1,by omega,by go_num,by show aM _ (k+1)=ZA;rw[aM,ZT.i,D.i];rfl,G.i⟩,by simp[intOf];omega⟩
  ·obtain rfl:k=m:=by omega
   go_wp2;go_ret;exact⟨-1,rfl,by rw[ZT.i];rfl,o.i⟩
def tO (a:O_)(c hb:Nat)(w:E):Calls Pg 153 #[Y a 0 c,.func (.func 119) #[] #[.pointer (T (Q hb 0 Z))]] w λe b=>e=ZI (J I (-1))/\b=w:=by
 go_enter Tryz.func153,Tryz.ntmps153;go_wp2;go_loop [8] (λi=>i=J I 0) (λ_=>0);case atStart=>rfl
 case round =>subst hrel;go_wp2;go_ret;exact⟨rfl,rfl⟩
def tP (a:O_)(m c:Nat)(h:Nat->Link)(hb:Nat)(i:O_)(n0 j:Nat)(f0:Nat->Source)(g:O_)(n1 l:Nat)(f1:Nat->Target)(w:E)(ZX:(m:Int)<=1048576)(f:SlLink w a m h)(z:hb<B (A w))(u:ZV w (Q hb 1 Z)=T (Y i n0 j))(s:ZV w (Q hb 2 Z)=T (Y g n1 l))(hn0:(n0:Int)<=1048576)(hn1:(n1:Int)<=1048576)(y:Qx w i n0 f0)(t:Qq w g n1 f1)(n:aK (nm0 f0) n0=ZH)(o:aK (nm1 f1) n1=ZH):Calls Pg 153 #[Y a m c,.func (.func 119) #[] #[.pointer (T (Q hb 0 Z))]] w λe x=>∃r:Int,e=ZI (J I r)/\decide (0<=r)=aM (λk=>dY n0 f0 n1 f1 (h k)) m/\Below (B (A w)) w x:=by
 rcases f with rfl|⟨b,off,rfl,f⟩
 {exact(tO a c hb w).P λe x ⟨p,q⟩=>⟨-1,p,rfl,by rw[q];exact a8 _ _⟩};{exact tN b off m c h hb i n0 j f0 g n1 l f1 w ZX f z u s hn0 hn1 y t n o}
def pn (a:O_)(m c:Nat)(h:Nat->Link)(hb:Nat)(g:O_)(n0 p:Nat)(f0:Nat->Source)(b:O_)(n1 i:Nat)(f1:Nat->Target)(w:E)(C:(m:Int)<=1048576)(f:SlLink w a m h)(x:hb<B (A w))(o:ZV w (Q hb 1 Z)=T (Y g n0 p))(l:ZV w (Q hb 2 Z)=T (Y b n1 i))(hn0:(n0:Int)<=1048576)(hn1:(n1:Int)<=1048576)(s:Qx w g n0 f0)(q:Qq w b n1 f1)(j:aK (nm0 f0) n0=ZH)(n:aK (nm1 f1) n1=ZH):Calls Pg 118 #[Y a m c,.func (.func 119) #[] #[.pointer (T (Q hb 0 Z))]] w λe D=>e=ZI (ZF (aM (λk=>dY n0 f0 n1 f1 (h k)) m))/\Below (B (A w)) w D:=by
 have z:=ae (tP a m c h hb g n0 p f0 b n1 i f1 w C f x o l hn0 hn1 s q j n);obtain⟨ZX,t⟩:∃ZX,ZX=aM (λk=>dY n0 f0 n1 f1 (h k)) m:=⟨_,rfl⟩
 rw[<-t];rw[<-t] at z;clear t s q j n f o l;go_enter Tryz.func118,Tryz.ntmps118;go_wp2_with fail;refine z.i.P ?_;rintro e w1⟨r,rfl,y,u⟩;have ZW:=ae y;have ZT:=ae u;clear y u;go_wp2;go_ret;exact⟨bv ZW.i,ZT.i⟩
def zn (u i n j_:Nat)(g:O_)(n0 l:Nat)(f0:Nat->Source)(f:O_)(n1 h:Nat)(f1:Nat->Target)(d:au)(a0:O_)(j:Nat)(a1:O_)(b:Nat)(w:E)(hn0:(n0:Int)<=1048576)(hn1:(n1:Int)<=1048576)(s:Qx w g n0 f0)(q:Qq w f n1 f1)(o:aK (nm0 f0) n0=ZH)(p:aK (nm1 f1) n1=ZH)(hL:SlLink w a1 d.f d.l)(hfl:d.f<=1048576):Calls Pg 77 #[ZJ #[Y (T (Q u i Z)) n j_,Y g n0 l,Y f n1 h],ZJ #[U d.e,J I d.m,J I d.M,U d.H,Y a0 d.h j,Y a1 d.f b]] w λe ZW=>e=ZI (ZF (hasB n0 f0 n1 f1 d))/\Below (B (A w)) w ZW:=by
 have m:=ae (((BS w).alloc ly (N #[Y (T (Q u i Z)) n j_,Y g n0 l,Y f n1 h] 129)).alloc (by simp) (N #[U d.e,J I d.m,J I d.M,U d.H,Y a0 d.h j,Y a1 d.f b] 58));have z:=ae (pn a1 d.f b d.l (B (A w)) g n0 l f0 f n1 h f1 _ (by omega) (hL.aa m.i ly) (by simp;omega) (by simp[go_sem]) (by simp[go_sem]) hn0 hn1 (s.aa m.i ly) (q.aa m.i ly) o p);obtain⟨r,t⟩:∃r,r=hasB n0 f0 n1 f1 d:=⟨_,rfl⟩
 rw[<-t];have y:=ae (show aM (λk=>dY n0 f0 n1 f1 (d.l k)) d.f=r from t.c);rw[y.i] at z;clear t s q o p hL y;go_enter Tryz.func77,Tryz.ntmps77;go_wp2_with fail;refine z.i.P ?_;rintro e w1⟨rfl,x⟩;have ZX:=ae (m.i.k (x.P m.i.size));clear x;go_wp2;go_ret;exact⟨rfl,ZX.i⟩
