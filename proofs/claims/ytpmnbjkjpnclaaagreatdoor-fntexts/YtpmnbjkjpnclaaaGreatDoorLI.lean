import Derived.Shelf.Strings.Builder1
import Derived.Shelf.Strings.Builder2
import Derived.Shelf.Strings.OnBuilder
import Derived.Shelf.Strings.Trim
import Derived.Shelf.Small.Utf8
import Derived.Shelf.Small.Strs
import Derived.Shelf.Strings.BuilderF
import Derived.Shelf.Strings.BuilderK
import Derived.Shelf.Strconv.Atoi
import Derived.Shelf.Strconv.Itoa0
import Derived.Shelf.Strconv.Itoa1
import Derived.Shelf.LaysM
import Derived.Shelf.Strconv.Itoa2
import Derived.Shelf.Strconv.Itoa3
import Derived.Shelf.Strconv.AtoiErrFast
import Derived.Shelf.Strconv.ParseIntEmpty
import Derived.Shelf.Strconv.AtoiFail
import Derived.Shelf.Strconv.Clone
import Derived.Shelf.Strconv.SyntaxError
import Derived.Shelf.LaysC
import Derived.Shelf.Strconv.ToError
import Derived.Shelf.Strconv.AtoiErr
import Derived.Shelf.Strconv.ErrVar
import Derived.Shelf.Strconv.Lower
import Derived.Shelf.Strconv.ParseUint10
import Derived.Shelf.Strconv.ParseUint10Empty
import Derived.Shelf.Strconv.ParseUint10Any
import Derived.Shelf.Strconv.ParseInt10
import Derived.Shelf.Strconv.AtoiLong
import Derived.Shelf.Strconv.AtoiInnerAll
import Derived.Shelf.Strconv.RangeError
import Derived.Shelf.Strconv.ToErrorRange
import Derived.Shelf.Strconv.AtoiAll
import Derived.Shelf.Strconv.ErrVarAll
import Derived.Shelf.Strings.Search1
import Derived.Shelf.Strings.Search2
import Derived.Shelf.Strings.Cut
import Derived.Shelf.Strings.Shaped
import Derived.Shelf.Strings.Prefix
import Derived.Shelf.Strings.Runes
import Derived.Shelf.Strings.IndexAny
import Derived.Shelf.Strings.AsciiSet
import Derived.Shelf.Strings.IndexAnyAll
import Derived.Shelf.Bits.Mul64
import Derived.Shelf.Strings.Repeat
import Derived.Shelf.Unicode.DecodeSlow
import Derived.Ground.Names2Prog
import Derived.Shelf.Slices.Clone
import Derived.Ground.SlgmProg
import Derived.Shelf.SortM.Plain
import Derived.Shelf.SortM.SortNone
import Derived.Test.YtpmnbjkjpnclaaaGreatDoorProg
open Go renaming Value.string->U,Value.int->Q,Value.bool->ZC,IntKind.i64->I,World->M,Ending.returned->ZD,Proofs.Tryz.prog->Pg
open Option renaming some->T
namespace Go.Proofs
open Tryz Go.Shelf
def Tryz.lays161_ren:Go.Shelf.Ren:=⟨λ|161=>322|231=>327|227=>328|233=>329|235=>330|228=>333|197=>336|151=>337|260=>339|152=>331|137=>243|119=>338|224=>308|225=>307|217=>278|266=>298|n=>n,λ|9=>9|4=>4|3=>3|5=>5|117=>389|116=>388|0=>0|124=>392|105=>398|21=>21|119=>402|46=>260|139=>405|138=>404|n=>n,λ|3=>13|4=>14|n=>n⟩
theorem lays161:Go.Proofs.Lays.n161 Pg Tryz.lays161_ren:={
 mixed:=by kernel_rfl
 f119:=func338.trans (congrArg T (by kernel_rfl))
 f137:=func243.trans (congrArg T (by kernel_rfl))
 f151:=func337.trans (congrArg T (by kernel_rfl))
 f152:=func331.trans (congrArg T (by kernel_rfl))
 f161:=func322.trans (congrArg T (by kernel_rfl))
 f197:=func336.trans (congrArg T (by kernel_rfl))
 f217:=func278.trans (congrArg T (by kernel_rfl))
 f224:=func308.trans (congrArg T (by kernel_rfl))
 f225:=func307.trans (congrArg T (by kernel_rfl))
 f227:=func328.trans (congrArg T (by kernel_rfl))
 f228:=func333.trans (congrArg T (by kernel_rfl))
 f231:=func327.trans (congrArg T (by kernel_rfl))
 f233:=func329.trans (congrArg T (by kernel_rfl))
 f235:=func330.trans (congrArg T (by kernel_rfl))
 f260:=func339.trans (congrArg T (by kernel_rfl))
 f266:=func298.trans (congrArg T (by kernel_rfl))
 t0:=underlying0
 a0:=isAgg0
 z0:=sizeOf0
 v0:=zeroValue0
 t3:=underlying3
 a3:=isAgg3
 z3:=sizeOf3
 v3:=zeroValue3
 t4:=underlying4
 a4:=isAgg4
 z4:=sizeOf4
 v4:=zeroValue4
 t5:=underlying5
 a5:=isAgg5
 z5:=sizeOf5
 v5:=zeroValue5
 t9:=underlying9
 a9:=isAgg9
 z9:=sizeOf9
 v9:=zeroValue9
 t21:=underlying21
 a21:=isAgg21
 z21:=sizeOf21
 v21:=zeroValue21
 t46:=underlying260
 a46:=isAgg260
 z46:=sizeOf260
 v46:=zeroValue260
 t105:=underlying398
 a105:=isAgg398
 z105:=sizeOf398
 v105:=zeroValue398
 t116:=underlying388
 a116:=isAgg388
 z116:=sizeOf388
 t117:=underlying389
 a117:=isAgg389
 z117:=sizeOf389
 v117:=zeroValue389
 t119:=underlying402
 a119:=isAgg402
 z119:=sizeOf402
 t124:=underlying392
 a124:=isAgg392
 z124:=sizeOf392
 v124:=zeroValue392
 t138:=underlying404
 a138:=isAgg404
 z138:=sizeOf404
 v138:=zeroValue404
 t139:=underlying405
 a139:=isAgg405
 z139:=sizeOf405
 v139:=zeroValue405
 g3:=by kernel_rfl
 g4:=by kernel_rfl }
def Tryz.lays119_ren:Go.Shelf.Ren:=⟨λ|119=>338|n=>n,λ|21=>21|4=>4|n=>n,λ|n=>n⟩
theorem lays119:Go.Proofs.Lays.n119 Pg Tryz.lays119_ren:={
 mixed:=by kernel_rfl
 f119:=func338.trans (congrArg T (by kernel_rfl))
 t4:=underlying4
 a4:=isAgg4
 z4:=sizeOf4
 v4:=zeroValue4
 t21:=underlying21
 a21:=isAgg21
 z21:=sizeOf21
 v21:=zeroValue21 }
theorem Tryz.utf8_ValidRune (r:Int)(w:M):Calls Pg 338 #[Q .i32 r] w λe b=>e=ZD (ZC (Lib.validRune r))/\b=w:=Any.utf8_ValidRune lays119 r w
def Tryz.lays213_ren:Go.Shelf.Ren:=⟨λ|213=>272|265=>294|n=>n,λ|9=>9|3=>3|n=>n,λ|n=>n⟩
def Tryz.lays106_ren:Go.Shelf.Ren:=⟨λ|106=>230|213=>272|265=>294|n=>n,λ|9=>9|3=>3|n=>n,λ|n=>n⟩
theorem lays106:Go.Proofs.Lays.n106 Pg Tryz.lays106_ren:={
 mixed:=by kernel_rfl
 f106:=func230.trans (congrArg T (by kernel_rfl))
 f213:=func272.trans (congrArg T (by kernel_rfl))
 f265:=func294.trans (congrArg T (by kernel_rfl))
 t3:=underlying3
 a3:=isAgg3
 z3:=sizeOf3
 v3:=zeroValue3
 t9:=underlying9
 a9:=isAgg9
 z9:=sizeOf9
 v9:=zeroValue9 }
open RowKit in
theorem Tryz.strings_Compare (a b:ByteArray)(w:M):Calls Pg 230 #[U a,U b] w λe f=>e=ZD (Q I (Lib.compareBytes a.data.toList b.data.toList))/\f=w:=Any.strings_Compare lays106 a b w
def Tryz.lays137_ren:Go.Shelf.Ren:=⟨λ|137=>243|217=>278|266=>298|n=>n,λ|9=>9|5=>5|3=>3|n=>n,λ|n=>n⟩
theorem lays137:Go.Proofs.Lays.n137 Pg Tryz.lays137_ren:={
 mixed:=by kernel_rfl
 f137:=func243.trans (congrArg T (by kernel_rfl))
 f217:=func278.trans (congrArg T (by kernel_rfl))
 f266:=func298.trans (congrArg T (by kernel_rfl))
 t3:=underlying3
 a3:=isAgg3
 z3:=sizeOf3
 v3:=zeroValue3
 t5:=underlying5
 a5:=isAgg5
 z5:=sizeOf5
 v5:=zeroValue5
 t9:=underlying9
 a9:=isAgg9
 z9:=sizeOf9
 v9:=zeroValue9 }
open RowKit in
theorem Tryz.strings_IndexByte (s:ByteArray)(c:Int)(w:M):Calls Pg 243 #[U s,Q .u8 c] w λe b=>e=ZD (Q I (Lib.indexByte s.data.toList c.toNat.toUInt8))/\b=w:=Any.strings_IndexByte lays137 s c w
def Tryz.lays318_ren:Go.Shelf.Ren:=⟨λ|318=>269|n=>n,λ|3=>3|4=>4|n=>n,λ|n=>n⟩
def Tryz.laysM246_ren:Go.Shelf.Ren:=⟨λ|246=>170|283=>222|284=>223|285=>224|286=>225|129=>263|317=>268|318=>269|319=>270|320=>271|337=>292|338=>293|n=>n,λ|2=>2|3=>3|9=>9|4=>4|171=>294|0=>0|53=>203|37=>22|5=>5|173=>297|212=>338|51=>309|20=>20|213=>339|46=>260|232=>369|233=>370|n=>n,λ|17=>2|18=>9|19=>10|n=>n⟩
def Tryz.laysM243_ren:Go.Shelf.Ren:=⟨λ|243=>113|246=>170|283=>222|284=>223|285=>224|286=>225|129=>263|317=>268|318=>269|319=>270|320=>271|337=>292|338=>293|n=>n,λ|3=>3|9=>9|2=>2|4=>4|171=>294|0=>0|53=>203|37=>22|5=>5|173=>297|212=>338|51=>309|20=>20|213=>339|46=>260|232=>369|233=>370|n=>n,λ|17=>2|18=>9|19=>10|n=>n⟩
def Tryz.laysM171_ren:Go.Shelf.Ren:=⟨λ|171=>55|243=>113|246=>170|283=>222|284=>223|285=>224|286=>225|129=>263|317=>268|318=>269|319=>270|320=>271|337=>292|338=>293|n=>n,λ|3=>3|9=>9|2=>2|4=>4|171=>294|0=>0|53=>203|37=>22|5=>5|173=>297|212=>338|51=>309|20=>20|213=>339|46=>260|232=>369|233=>370|n=>n,λ|17=>2|18=>9|19=>10|n=>n⟩
theorem laysM171:Go.Proofs.LaysM.n171 Pg Tryz.laysM171_ren:={
 mixed:=by kernel_rfl
 f129:=func263.trans (congrArg T (by kernel_rfl))
 f171:=func55.trans (congrArg T (by kernel_rfl))
 f243:=func113.trans (congrArg T (by kernel_rfl))
 f246:=func170.trans (congrArg T (by kernel_rfl))
 f283:=func222.trans (congrArg T (by kernel_rfl))
 f284:=func223.trans (congrArg T (by kernel_rfl))
 f285:=func224.trans (congrArg T (by kernel_rfl))
 f286:=func225.trans (congrArg T (by kernel_rfl))
 f317:=func268.trans (congrArg T (by kernel_rfl))
 f318:=func269.trans (congrArg T (by kernel_rfl))
 f319:=func270.trans (congrArg T (by kernel_rfl))
 f320:=func271.trans (congrArg T (by kernel_rfl))
 f337:=func292.trans (congrArg T (by kernel_rfl))
 f338:=func293.trans (congrArg T (by kernel_rfl))
 t0:=underlying0
 a0:=isAgg0
 z0:=sizeOf0
 v0:=zeroValue0
 t2:=underlying2
 a2:=isAgg2
 z2:=sizeOf2
 v2:=zeroValue2
 t3:=underlying3
 a3:=isAgg3
 z3:=sizeOf3
 v3:=zeroValue3
 t4:=underlying4
 a4:=isAgg4
 z4:=sizeOf4
 v4:=zeroValue4
 t5:=underlying5
 a5:=isAgg5
 z5:=sizeOf5
 v5:=zeroValue5
 t9:=underlying9
 a9:=isAgg9
 z9:=sizeOf9
 v9:=zeroValue9
 t20:=underlying20
 a20:=isAgg20
 z20:=sizeOf20
 v20:=zeroValue20
 t37:=underlying22
 a37:=isAgg22
 z37:=sizeOf22
 v37:=zeroValue22
 t46:=underlying260
 a46:=isAgg260
 z46:=sizeOf260
 v46:=zeroValue260
 t51:=underlying309
 a51:=isAgg309
 z51:=sizeOf309
 v51:=zeroValue309
 t53:=underlying203
 a53:=isAgg203
 z53:=sizeOf203
 v53:=zeroValue203
 t171:=underlying294
 a171:=isAgg294
 z171:=sizeOf294
 v171:=zeroValue294
 t173:=underlying297
 a173:=isAgg297
 z173:=sizeOf297
 v173:=zeroValue297
 t212:=underlying338
 a212:=isAgg338
 z212:=sizeOf338
 v212:=zeroValue338
 t213:=underlying339
 a213:=isAgg339
 z213:=sizeOf339
 t232:=underlying369
 a232:=isAgg369
 z232:=sizeOf369
 v232:=zeroValue369
 t233:=underlying370
 a233:=isAgg370
 z233:=sizeOf370
 v233:=zeroValue370
 g17:=by kernel_rfl
 g18:=by kernel_rfl
 g19:=by kernel_rfl
 i0:=by kernel_rfl
 i2:=by kernel_rfl
 i3:=by kernel_rfl
 i4:=by kernel_rfl
 i5:=by kernel_rfl
 i9:=by kernel_rfl
 i20:=by kernel_rfl
 i37:=by kernel_rfl
 i46:=by kernel_rfl
 i51:=by kernel_rfl
 i53:=by kernel_rfl
 i171:=by kernel_rfl
 i173:=by kernel_rfl
 i212:=by kernel_rfl
 i232:=by kernel_rfl
 i233:=by kernel_rfl
 m17:=by kernel_rfl
 m18:=by kernel_rfl
 m19:=by kernel_rfl }
open RowKit Go.Sort Go.Lib in
theorem Tryz.strconv_Itoa (n:Int)(g:-9223372036854775808<=n)(h1:n<=9223372036854775807)(w:M)(b:Lib.TabIs Pg w "internal/strconv.uint64pow10" .u64 Lib.pow10Tab):Calls Pg 55 #[Q I n] w λe f=>e=ZD (U ⟨(Lib.itoa n).toArray⟩)/\∃k os,f=grow (w.drewN k) os:=Any.strconv_Itoa laysM171 n g h1 w b
def Tryz.lays152_ren:Go.Shelf.Ren:=⟨λ|152=>331|137=>243|119=>338|224=>308|225=>307|217=>278|266=>298|n=>n,λ|9=>9|21=>21|3=>3|4=>4|5=>5|0=>0|46=>260|n=>n,λ|n=>n⟩
theorem lays152:Go.Proofs.Lays.n152 Pg Tryz.lays152_ren:={
 mixed:=by kernel_rfl
 f119:=func338.trans (congrArg T (by kernel_rfl))
 f137:=func243.trans (congrArg T (by kernel_rfl))
 f152:=func331.trans (congrArg T (by kernel_rfl))
 f217:=func278.trans (congrArg T (by kernel_rfl))
 f224:=func308.trans (congrArg T (by kernel_rfl))
 f225:=func307.trans (congrArg T (by kernel_rfl))
 f266:=func298.trans (congrArg T (by kernel_rfl))
 t0:=underlying0
 a0:=isAgg0
 z0:=sizeOf0
 v0:=zeroValue0
 t3:=underlying3
 a3:=isAgg3
 z3:=sizeOf3
 v3:=zeroValue3
 t4:=underlying4
 a4:=isAgg4
 z4:=sizeOf4
 v4:=zeroValue4
 t5:=underlying5
 a5:=isAgg5
 z5:=sizeOf5
 v5:=zeroValue5
 t9:=underlying9
 a9:=isAgg9
 z9:=sizeOf9
 v9:=zeroValue9
 t21:=underlying21
 a21:=isAgg21
 z21:=sizeOf21
 v21:=zeroValue21
 t46:=underlying260
 a46:=isAgg260
 z46:=sizeOf260
 v46:=zeroValue260 }
open RowKit Go.Lib in
theorem Tryz.strings_IndexRune_ascii (s:ByteArray)(r:Int)(w:M)(f:0<=r)(h1:r<128):Calls Pg 331 #[U s,Q .i32 r] w λe b=>e=ZD (Q I (Lib.indexByte s.data.toList r.toNat.toUInt8))/\b=w:=Any.strings_IndexRune_ascii lays152 s r w f h1
def Tryz.lays226_ren:Go.Shelf.Ren:=⟨λ|226=>332|n=>n,λ|3=>3|4=>4|n=>n,λ|n=>n⟩
theorem lays226:Go.Proofs.Lays.n226 Pg Tryz.lays226_ren:={
 mixed:=by kernel_rfl
 f226:=func332.trans (congrArg T (by kernel_rfl))
 t3:=underlying3
 a3:=isAgg3
 z3:=sizeOf3
 v3:=zeroValue3
 t4:=underlying4
 a4:=isAgg4
 z4:=sizeOf4
 v4:=zeroValue4 }
open RowKit Go.Lib in
theorem Tryz.strings_shouldUseASCIISet (n:Int)(w:M):Calls Pg 332 #[Q I n] w λe b=>e=ZD (ZC (decide (8<n)))/\b=w:=Any.strings_shouldUseASCIISet lays226 n w
def Tryz.lays153_ren:Go.Shelf.Ren:=⟨λ|153=>323|152=>331|226=>332|227=>328|228=>333|137=>243|119=>338|224=>308|225=>307|217=>278|266=>298|n=>n,λ|9=>9|3=>3|4=>4|5=>5|21=>21|117=>389|116=>388|0=>0|46=>260|124=>392|n=>n,λ|n=>n⟩
theorem lays153:Go.Proofs.Lays.n153 Pg Tryz.lays153_ren:={
 mixed:=by kernel_rfl
 f119:=func338.trans (congrArg T (by kernel_rfl))
 f137:=func243.trans (congrArg T (by kernel_rfl))
 f152:=func331.trans (congrArg T (by kernel_rfl))
 f153:=func323.trans (congrArg T (by kernel_rfl))
 f217:=func278.trans (congrArg T (by kernel_rfl))
 f224:=func308.trans (congrArg T (by kernel_rfl))
 f225:=func307.trans (congrArg T (by kernel_rfl))
 f226:=func332.trans (congrArg T (by kernel_rfl))
 f227:=func328.trans (congrArg T (by kernel_rfl))
 f228:=func333.trans (congrArg T (by kernel_rfl))
 f266:=func298.trans (congrArg T (by kernel_rfl))
 t0:=underlying0
 a0:=isAgg0
 z0:=sizeOf0
 v0:=zeroValue0
 t3:=underlying3
 a3:=isAgg3
 z3:=sizeOf3
 v3:=zeroValue3
 t4:=underlying4
 a4:=isAgg4
 z4:=sizeOf4
 v4:=zeroValue4
 t5:=underlying5
 a5:=isAgg5
 z5:=sizeOf5
 v5:=zeroValue5
 t9:=underlying9
 a9:=isAgg9
 z9:=sizeOf9
 v9:=zeroValue9
 t21:=underlying21
 a21:=isAgg21
 z21:=sizeOf21
 v21:=zeroValue21
 t46:=underlying260
 a46:=isAgg260
 z46:=sizeOf260
 v46:=zeroValue260
 t116:=underlying388
 a116:=isAgg388
 z116:=sizeOf388
 t117:=underlying389
 a117:=isAgg389
 z117:=sizeOf389
 v117:=zeroValue389
 t124:=underlying392
 a124:=isAgg392
 z124:=sizeOf392
 v124:=zeroValue392 }
open RowKit Go.Lib in
theorem Tryz.strings_IndexAny_long (h:∀w,(zeroValue 388).run Pg w=.ok (.agg (Array.replicate 256 (ZC false))) w)(s f:ByteArray)(w:M)(h2:2<=f.size)(m:8<s.size)(l:s.size<4294967281)(i:f.size<4294967281)(g:∀(j:Nat) b,f.data.toList[j]?=T b->b.toNat<128):Calls Pg 323 #[U s,U f] w λe n=>e=ZD (Q I (Lib.indexAny s.data.toList f.data.toList))/\n=((w.alloc (.cells (Lib.setCells f.data.toList) 388)).alloc (.cells (Lib.setCells f.data.toList) 388)):=Any.strings_IndexAny_long lays153 h (by kernel_rfl) s f w h2 m l i g
def Tryz.laysNm216_ren:Go.Shelf.Ren:=⟨λ|16=>168|n=>n,λ|24=>30|9=>9|4=>4|n=>n,λ|n=>n⟩
theorem laysNm216:Go.Proofs.Lays2.n16 Pg Tryz.laysNm216_ren:={
 mixed:=by kernel_rfl
 f16:=func168.trans (congrArg T (by kernel_rfl))
 t4:=underlying4
 a4:=isAgg4
 z4:=sizeOf4
 v4:=zeroValue4
 t9:=underlying9
 a9:=isAgg9
 z9:=sizeOf9
 v9:=zeroValue9
 t24:=underlying30
 a24:=isAgg30
 z24:=sizeOf30
 v24:=zeroValue30
 i9:=by kernel_rfl }
open RowKit Go.Lib in
theorem Tryz.slices_Clone_string (b off n c:Nat)(zs:List ByteArray)(w:M)(hz:n<=zs.length)(g:n*16<=140737488355328)(i:∀j,j<zs.length->w.cell? ⟨b,off+j,none⟩=T (U (zs.getD j ByteArray.empty))):Calls Pg 168 #[.slice (T ⟨b,off,none⟩) n c] w λe h=>∃f,e=ZD f/\h.ownsRow w.heap.size 9 1 f n ((zs.take n).map (Value.string))/\f≠.slice none 0 0/\Below w.heap.size w h:=Any.slices_Clone_string laysNm216 b off n c zs w hz g i
