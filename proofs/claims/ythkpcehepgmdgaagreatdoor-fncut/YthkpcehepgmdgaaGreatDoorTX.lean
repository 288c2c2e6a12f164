import Derived.Shelf.Strings.Trim
import Derived.Shelf.Small.Utf8
import Derived.Shelf.Small.Strs
import Derived.Shelf.Strconv.Itoa0
import Derived.Shelf.Strconv.Itoa1
import Derived.Shelf.LaysM
import Derived.Shelf.Strconv.Itoa2
import Derived.Shelf.Strconv.Itoa3
import Derived.Shelf.Strings.Search1
import Derived.Shelf.Unicode.Decode
import Derived.Shelf.Strings.Runes
import Derived.Shelf.Strings.IndexAny
import Derived.Shelf.Strings.AsciiSet
import Derived.Shelf.Strings.IndexAnyAll
import Derived.Shelf.Unicode.DecodeSlow
import Derived.Shelf.Unicode.DecodeAny
import Derived.Test.YthkpcehepgmdgaaGreatDoorProg
open Go renaming Value.string->U,Value.int->J,Value.bool->ZC,IntKind.i64->I,World->G,Ending.returned->ZG,Proofs.Tryz.prog->Pg
open Option renaming some->T
namespace Go.Proofs
open Tryz Go.Shelf
def Tryz.lays161_ren:Go.Shelf.Ren:=⟨λ|161=>167|231=>170|227=>171|233=>172|235=>173|228=>176|197=>181|151=>182|260=>192|152=>174|137=>183|119=>184|224=>185|225=>186|217=>193|266=>196|n=>n,λ|9=>9|4=>4|3=>3|5=>5|117=>225|116=>224|0=>0|124=>228|105=>237|21=>21|119=>248|46=>197|139=>251|138=>250|n=>n,λ|3=>3|4=>4|n=>n⟩
theorem lays161:Go.Proofs.Lays.n161 Pg Tryz.lays161_ren:={
 mixed:=by kernel_rfl
 f119:=func184.trans (congrArg T (by kernel_rfl))
 f137:=func183.trans (congrArg T (by kernel_rfl))
 f151:=func182.trans (congrArg T (by kernel_rfl))
 f152:=func174.trans (congrArg T (by kernel_rfl))
 f161:=func167.trans (congrArg T (by kernel_rfl))
 f197:=func181.trans (congrArg T (by kernel_rfl))
 f217:=func193.trans (congrArg T (by kernel_rfl))
 f224:=func185.trans (congrArg T (by kernel_rfl))
 f225:=func186.trans (congrArg T (by kernel_rfl))
 f227:=func171.trans (congrArg T (by kernel_rfl))
 f228:=func176.trans (congrArg T (by kernel_rfl))
 f231:=func170.trans (congrArg T (by kernel_rfl))
 f233:=func172.trans (congrArg T (by kernel_rfl))
 f235:=func173.trans (congrArg T (by kernel_rfl))
 f260:=func192.trans (congrArg T (by kernel_rfl))
 f266:=func196.trans (congrArg T (by kernel_rfl))
 t0:=underlying0
 a0:=isAgg0
 z0:=sizeOf0
 v0:=zeroValue0
 t3:=underlying3
 a3:=isAgg3
 z3:=sizeOf3
 v3:=zeroValue3
 t4:=underlying4
 a4:=isAgg4
 z4:=sizeOf4
 v4:=zeroValue4
 t5:=underlying5
 a5:=isAgg5
 z5:=sizeOf5
 v5:=zeroValue5
 t9:=underlying9
 a9:=isAgg9
 z9:=sizeOf9
 v9:=zeroValue9
 t21:=underlying21
 a21:=isAgg21
 z21:=sizeOf21
 v21:=zeroValue21
 t46:=underlying197
 a46:=isAgg197
 z46:=sizeOf197
 v46:=zeroValue197
 t105:=underlying237
 a105:=isAgg237
 z105:=sizeOf237
 v105:=zeroValue237
 t116:=underlying224
 a116:=isAgg224
 z116:=sizeOf224
 t117:=underlying225
 a117:=isAgg225
 z117:=sizeOf225
 v117:=zeroValue225
 t119:=underlying248
 a119:=isAgg248
 z119:=sizeOf248
 t124:=underlying228
 a124:=isAgg228
 z124:=sizeOf228
 v124:=zeroValue228
 t138:=underlying250
 a138:=isAgg250
 z138:=sizeOf250
 v138:=zeroValue250
 t139:=underlying251
 a139:=isAgg251
 z139:=sizeOf251
 v139:=zeroValue251
 g3:=by kernel_rfl
 g4:=by kernel_rfl }
def Tryz.lays119_ren:Go.Shelf.Ren:=⟨λ|119=>184|n=>n,λ|21=>21|4=>4|n=>n,λ|n=>n⟩
theorem lays119:Go.Proofs.Lays.n119 Pg Tryz.lays119_ren:={
 mixed:=by kernel_rfl
 f119:=func184.trans (congrArg T (by kernel_rfl))
 t4:=underlying4
 a4:=isAgg4
 z4:=sizeOf4
 v4:=zeroValue4
 t21:=underlying21
 a21:=isAgg21
 z21:=sizeOf21
 v21:=zeroValue21 }
theorem Tryz.utf8_ValidRune (r:Int)(w:G):Calls Pg 184 #[J .i32 r] w λe b=>e=ZG (ZC (Lib.validRune r))/\b=w:=Any.utf8_ValidRune lays119 r w
def Tryz.lays213_ren:Go.Shelf.Ren:=⟨λ|213=>146|265=>153|n=>n,λ|9=>9|3=>3|n=>n,λ|n=>n⟩
def Tryz.lays106_ren:Go.Shelf.Ren:=⟨λ|106=>132|213=>146|265=>153|n=>n,λ|9=>9|3=>3|n=>n,λ|n=>n⟩
theorem lays106:Go.Proofs.Lays.n106 Pg Tryz.lays106_ren:={
 mixed:=by kernel_rfl
 f106:=func132.trans (congrArg T (by kernel_rfl))
 f213:=func146.trans (congrArg T (by kernel_rfl))
 f265:=func153.trans (congrArg T (by kernel_rfl))
 t3:=underlying3
 a3:=isAgg3
 z3:=sizeOf3
 v3:=zeroValue3
 t9:=underlying9
 a9:=isAgg9
 z9:=sizeOf9
 v9:=zeroValue9 }
open RowKit in
theorem Tryz.strings_Compare (a b:ByteArray)(w:G):Calls Pg 132 #[U a,U b] w λe f=>e=ZG (J I (Lib.compareBytes a.data.toList b.data.toList))/\f=w:=Any.strings_Compare lays106 a b w
def Tryz.lays137_ren:Go.Shelf.Ren:=⟨λ|137=>183|217=>193|266=>196|n=>n,λ|9=>9|5=>5|3=>3|n=>n,λ|n=>n⟩
theorem lays137:Go.Proofs.Lays.n137 Pg Tryz.lays137_ren:={
 mixed:=by kernel_rfl
 f137:=func183.trans (congrArg T (by kernel_rfl))
 f217:=func193.trans (congrArg T (by kernel_rfl))
 f266:=func196.trans (congrArg T (by kernel_rfl))
 t3:=underlying3
 a3:=isAgg3
 z3:=sizeOf3
 v3:=zeroValue3
 t5:=underlying5
 a5:=isAgg5
 z5:=sizeOf5
 v5:=zeroValue5
 t9:=underlying9
 a9:=isAgg9
 z9:=sizeOf9
 v9:=zeroValue9 }
open RowKit in
theorem Tryz.strings_IndexByte (s:ByteArray)(c:Int)(w:G):Calls Pg 183 #[U s,J .u8 c] w λe b=>e=ZG (J I (Lib.indexByte s.data.toList c.toNat.toUInt8))/\b=w:=Any.strings_IndexByte lays137 s c w
def Tryz.lays318_ren:Go.Shelf.Ren:=⟨λ|318=>189|n=>n,λ|3=>3|4=>4|n=>n,λ|n=>n⟩
def Tryz.laysM246_ren:Go.Shelf.Ren:=⟨λ|246=>169|283=>177|284=>178|285=>179|286=>180|129=>188|317=>187|318=>189|319=>190|320=>191|337=>194|338=>195|n=>n,λ|2=>2|3=>3|9=>9|4=>4|171=>231|0=>0|53=>232|37=>22|5=>5|173=>235|212=>243|51=>244|20=>20|213=>245|46=>197|232=>252|233=>253|n=>n,λ|17=>2|18=>5|19=>6|n=>n⟩
def Tryz.laysM243_ren:Go.Shelf.Ren:=⟨λ|243=>166|246=>169|283=>177|284=>178|285=>179|286=>180|129=>188|317=>187|318=>189|319=>190|320=>191|337=>194|338=>195|n=>n,λ|3=>3|9=>9|2=>2|4=>4|171=>231|0=>0|53=>232|37=>22|5=>5|173=>235|212=>243|51=>244|20=>20|213=>245|46=>197|232=>252|233=>253|n=>n,λ|17=>2|18=>5|19=>6|n=>n⟩
def Tryz.laysM171_ren:Go.Shelf.Ren:=⟨λ|171=>161|243=>166|246=>169|283=>177|284=>178|285=>179|286=>180|129=>188|317=>187|318=>189|319=>190|320=>191|337=>194|338=>195|n=>n,λ|3=>3|9=>9|2=>2|4=>4|171=>231|0=>0|53=>232|37=>22|5=>5|173=>235|212=>243|51=>244|20=>20|213=>245|46=>197|232=>252|233=>253|n=>n,λ|17=>2|18=>5|19=>6|n=>n⟩
theorem laysM171:Go.Proofs.LaysM.n171 Pg Tryz.laysM171_ren:={
 mixed:=by kernel_rfl
 f129:=func188.trans (congrArg T (by kernel_rfl))
 f171:=func161.trans (congrArg T (by kernel_rfl))
 f243:=func166.trans (congrArg T (by kernel_rfl))
 f246:=func169.trans (congrArg T (by kernel_rfl))
 f283:=func177.trans (congrArg T (by kernel_rfl))
 f284:=func178.trans (congrArg T (by kernel_rfl))
 f285:=func179.trans (congrArg T (by kernel_rfl))
 f286:=func180.trans (congrArg T (by kernel_rfl))
 f317:=func187.trans (congrArg T (by kernel_rfl))
 f318:=func189.trans (congrArg T (by kernel_rfl))
 f319:=func190.trans (congrArg T (by kernel_rfl))
 f320:=func191.trans (congrArg T (by kernel_rfl))
 f337:=func194.trans (congrArg T (by kernel_rfl))
 f338:=func195.trans (congrArg T (by kernel_rfl))
 t0:=underlying0
 a0:=isAgg0
 z0:=sizeOf0
 v0:=zeroValue0
 t2:=underlying2
 a2:=isAgg2
 z2:=sizeOf2
 v2:=zeroValue2
 t3:=underlying3
 a3:=isAgg3
 z3:=sizeOf3
 v3:=zeroValue3
 t4:=underlying4
 a4:=isAgg4
 z4:=sizeOf4
 v4:=zeroValue4
 t5:=underlying5
 a5:=isAgg5
 z5:=sizeOf5
 v5:=zeroValue5
 t9:=underlying9
 a9:=isAgg9
 z9:=sizeOf9
 v9:=zeroValue9
 t20:=underlying20
 a20:=isAgg20
 z20:=sizeOf20
 v20:=zeroValue20
 t37:=underlying22
 a37:=isAgg22
 z37:=sizeOf22
 v37:=zeroValue22
 t46:=underlying197
 a46:=isAgg197
 z46:=sizeOf197
 v46:=zeroValue197
 t51:=underlying244
 a51:=isAgg244
 z51:=sizeOf244
 v51:=zeroValue244
 t53:=underlying232
 a53:=isAgg232
 z53:=sizeOf232
 v53:=zeroValue232
 t171:=underlying231
 a171:=isAgg231
 z171:=sizeOf231
 v171:=zeroValue231
 t173:=underlying235
 a173:=isAgg235
 z173:=sizeOf235
 v173:=zeroValue235
 t212:=underlying243
 a212:=isAgg243
 z212:=sizeOf243
 v212:=zeroValue243
 t213:=underlying245
 a213:=isAgg245
 z213:=sizeOf245
 t232:=underlying252
 a232:=isAgg252
 z232:=sizeOf252
 v232:=zeroValue252
 t233:=underlying253
 a233:=isAgg253
 z233:=sizeOf253
 v233:=zeroValue253
 g17:=by kernel_rfl
 g18:=by kernel_rfl
 g19:=by kernel_rfl
 i0:=by kernel_rfl
 i2:=by kernel_rfl
 i3:=by kernel_rfl
 i4:=by kernel_rfl
 i5:=by kernel_rfl
 i9:=by kernel_rfl
 i20:=by kernel_rfl
 i37:=by kernel_rfl
 i46:=by kernel_rfl
 i51:=by kernel_rfl
 i53:=by kernel_rfl
 i171:=by kernel_rfl
 i173:=by kernel_rfl
 i212:=by kernel_rfl
 i232:=by kernel_rfl
 i233:=by kernel_rfl
 m17:=by kernel_rfl
 m18:=by kernel_rfl
 m19:=by kernel_rfl }
open RowKit Go.Sort Go.Lib in
theorem Tryz.strconv_Itoa (n:Int)(g:-9223372036854775808<=n)(h1:n<=9223372036854775807)(w:G)(b:Lib.TabIs Pg w "internal/strconv.uint64pow10" .u64 Lib.pow10Tab):Calls Pg 161 #[J I n] w λe f=>e=ZG (U ⟨(Lib.itoa n).toArray⟩)/\∃k os,f=grow (w.drewN k) os:=Any.strconv_Itoa laysM171 n g h1 w b
def Tryz.lays152_ren:Go.Shelf.Ren:=⟨λ|152=>174|137=>183|119=>184|224=>185|225=>186|217=>193|266=>196|n=>n,λ|9=>9|21=>21|3=>3|4=>4|5=>5|0=>0|46=>197|n=>n,λ|n=>n⟩
theorem lays152:Go.Proofs.Lays.n152 Pg Tryz.lays152_ren:={
 mixed:=by kernel_rfl
 f119:=func184.trans (congrArg T (by kernel_rfl))
 f137:=func183.trans (congrArg T (by kernel_rfl))
 f152:=func174.trans (congrArg T (by kernel_rfl))
 f217:=func193.trans (congrArg T (by kernel_rfl))
 f224:=func185.trans (congrArg T (by kernel_rfl))
 f225:=func186.trans (congrArg T (by kernel_rfl))
 f266:=func196.trans (congrArg T (by kernel_rfl))
 t0:=underlying0
 a0:=isAgg0
 z0:=sizeOf0
 v0:=zeroValue0
 t3:=underlying3
 a3:=isAgg3
 z3:=sizeOf3
 v3:=zeroValue3
 t4:=underlying4
 a4:=isAgg4
 z4:=sizeOf4
 v4:=zeroValue4
 t5:=underlying5
 a5:=isAgg5
 z5:=sizeOf5
 v5:=zeroValue5
 t9:=underlying9
 a9:=isAgg9
 z9:=sizeOf9
 v9:=zeroValue9
 t21:=underlying21
 a21:=isAgg21
 z21:=sizeOf21
 v21:=zeroValue21
 t46:=underlying197
 a46:=isAgg197
 z46:=sizeOf197
 v46:=zeroValue197 }
open RowKit Go.Lib in
theorem Tryz.strings_IndexRune_ascii (s:ByteArray)(r:Int)(w:G)(f:0<=r)(h1:r<128):Calls Pg 174 #[U s,J .i32 r] w λe b=>e=ZG (J I (Lib.indexByte s.data.toList r.toNat.toUInt8))/\b=w:=Any.strings_IndexRune_ascii lays152 s r w f h1
def Tryz.lays226_ren:Go.Shelf.Ren:=⟨λ|226=>175|n=>n,λ|3=>3|4=>4|n=>n,λ|n=>n⟩
theorem lays226:Go.Proofs.Lays.n226 Pg Tryz.lays226_ren:={
 mixed:=by kernel_rfl
 f226:=func175.trans (congrArg T (by kernel_rfl))
 t3:=underlying3
 a3:=isAgg3
 z3:=sizeOf3
 v3:=zeroValue3
 t4:=underlying4
 a4:=isAgg4
 z4:=sizeOf4
 v4:=zeroValue4 }
open RowKit Go.Lib in
theorem Tryz.strings_shouldUseASCIISet (n:Int)(w:G):Calls Pg 175 #[J I n] w λe b=>e=ZG (ZC (decide (8<n)))/\b=w:=Any.strings_shouldUseASCIISet lays226 n w
def Tryz.lays153_ren:Go.Shelf.Ren:=⟨λ|153=>168|152=>174|226=>175|227=>171|228=>176|137=>183|119=>184|224=>185|225=>186|217=>193|266=>196|n=>n,λ|9=>9|3=>3|4=>4|5=>5|21=>21|117=>225|116=>224|0=>0|46=>197|124=>228|n=>n,λ|n=>n⟩
theorem lays153:Go.Proofs.Lays.n153 Pg Tryz.lays153_ren:={
 mixed:=by kernel_rfl
 f119:=func184.trans (congrArg T (by kernel_rfl))
 f137:=func183.trans (congrArg T (by kernel_rfl))
 f152:=func174.trans (congrArg T (by kernel_rfl))
 f153:=func168.trans (congrArg T (by kernel_rfl))
 f217:=func193.trans (congrArg T (by kernel_rfl))
 f224:=func185.trans (congrArg T (by kernel_rfl))
 f225:=func186.trans (congrArg T (by kernel_rfl))
 f226:=func175.trans (congrArg T (by kernel_rfl))
 f227:=func171.trans (congrArg T (by kernel_rfl))
 f228:=func176.trans (congrArg T (by kernel_rfl))
 f266:=func196.trans (congrArg T (by kernel_rfl))
 t0:=underlying0
 a0:=isAgg0
 z0:=sizeOf0
 v0:=zeroValue0
 t3:=underlying3
 a3:=isAgg3
 z3:=sizeOf3
 v3:=zeroValue3
 t4:=underlying4
 a4:=isAgg4
 z4:=sizeOf4
 v4:=zeroValue4
 t5:=underlying5
 a5:=isAgg5
 z5:=sizeOf5
 v5:=zeroValue5
 t9:=underlying9
 a9:=isAgg9
 z9:=sizeOf9
 v9:=zeroValue9
 t21:=underlying21
 a21:=isAgg21
 z21:=sizeOf21
 v21:=zeroValue21
 t46:=underlying197
 a46:=isAgg197
 z46:=sizeOf197
 v46:=zeroValue197
 t116:=underlying224
 a116:=isAgg224
 z116:=sizeOf224
 t117:=underlying225
 a117:=isAgg225
 z117:=sizeOf225
 v117:=zeroValue225
 t124:=underlying228
 a124:=isAgg228
 z124:=sizeOf228
 v124:=zeroValue228 }
open RowKit Go.Lib in
theorem Tryz.strings_IndexAny_long (h:∀w,(zeroValue 224).run Pg w=.ok (.agg (Array.replicate 256 (ZC false))) w)(s f:ByteArray)(w:G)(h2:2<=f.size)(m:8<s.size)(l:s.size<4294967281)(i:f.size<4294967281)(g:∀(j:Nat) b,f.data.toList[j]?=T b->b.toNat<128):Calls Pg 168 #[U s,U f] w λe n=>e=ZG (J I (Lib.indexAny s.data.toList f.data.toList))/\n=((w.alloc (.cells (Lib.setCells f.data.toList) 224)).alloc (.cells (Lib.setCells f.data.toList) 224)):=Any.strings_IndexAny_long lays153 h (by kernel_rfl) s f w h2 m l i g
