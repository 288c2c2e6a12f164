import Derived.Shelf.Strings.Builder1
import Derived.Shelf.Strings.Builder2
import Derived.Shelf.Strings.OnBuilder
import Derived.Shelf.Strings.Trim
import Derived.Shelf.Small.Utf8
import Derived.Shelf.Small.Strs
import Derived.Shelf.Strings.BuilderF
import Derived.Shelf.Strings.BuilderK
import Derived.Shelf.Strconv.Atoi
import Derived.Shelf.Strconv.Itoa0
import Derived.Shelf.Strconv.Itoa1
import Derived.Shelf.LaysM
import Derived.Shelf.Strconv.Itoa2
import Derived.Shelf.Strconv.Itoa3
import Derived.Shelf.Strconv.AtoiErrFast
import Derived.Shelf.Strconv.ParseIntEmpty
import Derived.Shelf.Strconv.AtoiFail
import Derived.Shelf.Strconv.Clone
import Derived.Shelf.Strconv.SyntaxError
import Derived.Shelf.LaysC
import Derived.Shelf.Strconv.ToError
import Derived.Shelf.Strconv.AtoiErr
import Derived.Shelf.Strconv.ErrVar
import Derived.Shelf.Strconv.Lower
import Derived.Shelf.Strconv.ParseUint10
import Derived.Shelf.Strconv.ParseUint10Empty
import Derived.Shelf.Strconv.ParseUint10Any
import Derived.Shelf.Strconv.ParseInt10
import Derived.Shelf.Strconv.AtoiLong
import Derived.Shelf.Strconv.AtoiInnerAll
import Derived.Shelf.Strconv.RangeError
import Derived.Shelf.Strconv.ToErrorRange
import Derived.Shelf.Strconv.AtoiAll
import Derived.Shelf.Strconv.ErrVarAll
import Derived.Shelf.Strings.Search1
import Derived.Shelf.Strings.Search2
import Derived.Shelf.Strings.Cut
import Derived.Shelf.Strings.Shaped
import Derived.Shelf.Strings.Prefix
import Derived.Shelf.Strings.Runes
import Derived.Shelf.Strings.IndexAny
import Derived.Shelf.Strings.AsciiSet
import Derived.Shelf.Strings.IndexAnyAll
import Derived.Shelf.Bits.Mul64
import Derived.Shelf.Strings.Repeat
import Derived.Shelf.Unicode.DecodeSlow
import Derived.Ground.Names2Prog
import Derived.Shelf.Slices.Clone
import Derived.Ground.SlgmProg
import Derived.Shelf.SortM.Plain
import Derived.Shelf.SortM.SortNone
import Derived.Test.YtpmnbjkjpnclaaaGreatDoorProg
open Go renaming Addr.mk->Q,Value.string->Y,Value.int->J,IntKind.i64->I,World->M,Ending.returned->ZF,Proofs.Tryz.prog->Pg
open Option renaming none->U,some->T
namespace Go.Proofs
open Tryz Go.Shelf
def Tryz.lays169_ren:Go.Shelf.Ren:=⟨λ|169=>82|n=>n,λ|70=>125|9=>9|0=>0|72=>127|37=>22|127=>215|3=>3|5=>5|n=>n,λ|n=>n⟩
theorem lays169:Go.Proofs.Lays.n169 Pg Tryz.lays169_ren:={
 mixed:=by kernel_rfl
 f169:=func82.trans (congrArg T (by kernel_rfl))
 t0:=underlying0
 a0:=isAgg0
 z0:=sizeOf0
 v0:=zeroValue0
 t3:=underlying3
 a3:=isAgg3
 z3:=sizeOf3
 v3:=zeroValue3
 t9:=underlying9
 a9:=isAgg9
 z9:=sizeOf9
 v9:=zeroValue9
 t37:=underlying22
 a37:=isAgg22
 z37:=sizeOf22
 v37:=zeroValue22
 t70:=underlying125
 a70:=isAgg125
 z70:=sizeOf125
 v70:=zeroValue125
 t72:=underlying127
 a72:=isAgg127
 z72:=sizeOf127
 v72:=zeroValue127
 t127:=underlying215
 a127:=isAgg215
 z127:=sizeOf215
 v127:=zeroValue215 }
theorem Tryz.Builder_Extra_169:Builder.Extra Pg Tryz.lays169_ren:={
 sizeBuilder:=by kernel_rfl
 liesBuilder:=by kernel_rfl
 t5:=underlying5
 a5:=isAgg5
 z5:=sizeOf5
 v5:=zeroValue5
 infoByte:=by kernel_rfl
 cellsByte:=by kernel_rfl
 sizeByte:=by kernel_rfl
 neB5:=by decide }
def Tryz.lays156_ren:Go.Shelf.Ren:=⟨λ|156=>139|165=>188|166=>138|169=>82|240=>195|241=>240|276=>248|277=>277|n=>n,λ|31=>30|9=>9|3=>3|4=>4|0=>0|20=>20|72=>127|76=>211|70=>125|37=>22|75=>207|127=>215|164=>321|5=>5|80=>133|n=>n,λ|n=>n⟩
theorem lays156:Go.Proofs.Lays.n156 Pg Tryz.lays156_ren:={
 mixed:=by kernel_rfl
 f156:=func139.trans (congrArg T (by kernel_rfl))
 f165:=func188.trans (congrArg T (by kernel_rfl))
 f166:=func138.trans (congrArg T (by kernel_rfl))
 f169:=func82.trans (congrArg T (by kernel_rfl))
 f240:=func195.trans (congrArg T (by kernel_rfl))
 f241:=func240.trans (congrArg T (by kernel_rfl))
 f276:=func248.trans (congrArg T (by kernel_rfl))
 f277:=func277.trans (congrArg T (by kernel_rfl))
 t0:=underlying0
 a0:=isAgg0
 z0:=sizeOf0
 v0:=zeroValue0
 t3:=underlying3
 a3:=isAgg3
 z3:=sizeOf3
 v3:=zeroValue3
 t4:=underlying4
 a4:=isAgg4
 z4:=sizeOf4
 v4:=zeroValue4
 t9:=underlying9
 a9:=isAgg9
 z9:=sizeOf9
 v9:=zeroValue9
 t20:=underlying20
 a20:=isAgg20
 z20:=sizeOf20
 v20:=zeroValue20
 t31:=underlying30
 a31:=isAgg30
 z31:=sizeOf30
 v31:=zeroValue30
 t37:=underlying22
 a37:=isAgg22
 z37:=sizeOf22
 v37:=zeroValue22
 t70:=underlying125
 a70:=isAgg125
 z70:=sizeOf125
 v70:=zeroValue125
 t72:=underlying127
 a72:=isAgg127
 z72:=sizeOf127
 v72:=zeroValue127
 t75:=underlying207
 a75:=isAgg207
 z75:=sizeOf207
 v75:=zeroValue207
 t76:=underlying211
 a76:=isAgg211
 z76:=sizeOf211
 v76:=zeroValue211
 t127:=underlying215
 a127:=isAgg215
 z127:=sizeOf215
 v127:=zeroValue215
 t164:=underlying321
 a164:=isAgg321
 z164:=sizeOf321
 v164:=zeroValue321 }
theorem Tryz.Builder_Extra_156:Builder.Extra Pg Tryz.lays156_ren:={
 sizeBuilder:=by kernel_rfl
 liesBuilder:=by kernel_rfl
 t5:=underlying5
 a5:=isAgg5
 z5:=sizeOf5
 v5:=zeroValue5
 infoByte:=by kernel_rfl
 cellsByte:=by kernel_rfl
 sizeByte:=by kernel_rfl
 neB5:=by decide }
open RowKit in
theorem Tryz.strings_Join (h o c:Nat)(b:List ByteArray)(f:ByteArray)(w:M)(g:∀(j:Nat) x,b[j]?=T x->w.cell? (Q h (o+j) U)=T (Y x))(m:h<w.heap.size)(p:b.length<=140737488355328)(i:b.length<=c)(l:(Lib.join (b.map (·.data.toList)) f.data.toList).length<=140737488355328):Calls Pg 139 #[.slice (T (Q h o U)) b.length c,Y f] w λe n=>e=ZF (Y ⟨(Lib.join (b.map (·.data.toList)) f.data.toList).toArray⟩)/\Below w.heap.size w n:=Any.strings_Join lays156 Tryz.Builder_Extra_156 h o c b f w g m p i l
def Tryz.lays137_ren:Go.Shelf.Ren:=⟨λ|137=>243|217=>278|266=>298|n=>n,λ|9=>9|5=>5|3=>3|n=>n,λ|n=>n⟩
theorem lays137:Go.Proofs.Lays.n137 Pg Tryz.lays137_ren:={
 mixed:=by kernel_rfl
 f137:=func243.trans (congrArg T (by kernel_rfl))
 f217:=func278.trans (congrArg T (by kernel_rfl))
 f266:=func298.trans (congrArg T (by kernel_rfl))
 t3:=underlying3
 a3:=isAgg3
 z3:=sizeOf3
 v3:=zeroValue3
 t5:=underlying5
 a5:=isAgg5
 z5:=sizeOf5
 v5:=zeroValue5
 t9:=underlying9
 a9:=isAgg9
 z9:=sizeOf9
 v9:=zeroValue9 }
open RowKit in
theorem Tryz.strings_IndexByte (s:ByteArray)(c:Int)(w:M):Calls Pg 243 #[Y s,J .u8 c] w λe b=>e=ZF (J I (Lib.indexByte s.data.toList c.toNat.toUInt8))/\b=w:=Any.strings_IndexByte lays137 s c w
open RowKit in
theorem Tryz.Builder_String_any_k (B b:Nat)(l:List UInt8)(w:M)(h:Lib.IsBuilderF 127 5 B b (Lib.byteCells l) w)(f:B<=w.heap.size):Calls Pg 82 #[.pointer (T (Q b 0 U))] w λe c=>e=ZF (Y ⟨l.toArray⟩)/\(Lib.IsBuilderF 127 5 B b (Lib.byteCells l) c/\Below B w c/\Lib.OthersKept 5 (T b) w c):=Any.Builder_String_any_k lays169 Tryz.Builder_Extra_169 B b l w h f
def Tryz.lays172_ren:Go.Shelf.Ren:=⟨λ|172=>300|244=>310|245=>311|247=>317|279=>318|280=>319|281=>320|282=>321|287=>324|316=>325|171=>55|205=>326|321=>334|322=>335|243=>113|246=>170|283=>222|284=>223|285=>224|286=>225|129=>263|317=>268|318=>269|319=>270|320=>271|337=>292|338=>293|n=>n,λ|9=>9|3=>3|75=>207|76=>211|4=>4|5=>5|167=>376|37=>22|0=>0|85=>377|2=>2|168=>379|53=>203|175=>382|46=>260|210=>385|127=>215|145=>397|143=>395|21=>21|171=>294|173=>297|212=>338|51=>309|20=>20|213=>339|232=>369|233=>370|80=>133|n=>n,λ|15=>11|16=>12|17=>2|18=>9|19=>10|n=>n⟩
def Tryz.laysM246_ren:Go.Shelf.Ren:=⟨λ|246=>170|283=>222|284=>223|285=>224|286=>225|129=>263|317=>268|318=>269|319=>270|320=>271|337=>292|338=>293|n=>n,λ|2=>2|3=>3|9=>9|4=>4|171=>294|0=>0|53=>203|37=>22|5=>5|173=>297|212=>338|51=>309|20=>20|213=>339|46=>260|232=>369|233=>370|n=>n,λ|17=>2|18=>9|19=>10|n=>n⟩
def Tryz.laysM243_ren:Go.Shelf.Ren:=⟨λ|243=>113|246=>170|283=>222|284=>223|285=>224|286=>225|129=>263|317=>268|318=>269|319=>270|320=>271|337=>292|338=>293|n=>n,λ|3=>3|9=>9|2=>2|4=>4|171=>294|0=>0|53=>203|37=>22|5=>5|173=>297|212=>338|51=>309|20=>20|213=>339|46=>260|232=>369|233=>370|n=>n,λ|17=>2|18=>9|19=>10|n=>n⟩
def Tryz.laysM171_ren:Go.Shelf.Ren:=⟨λ|171=>55|243=>113|246=>170|283=>222|284=>223|285=>224|286=>225|129=>263|317=>268|318=>269|319=>270|320=>271|337=>292|338=>293|n=>n,λ|3=>3|9=>9|2=>2|4=>4|171=>294|0=>0|53=>203|37=>22|5=>5|173=>297|212=>338|51=>309|20=>20|213=>339|46=>260|232=>369|233=>370|n=>n,λ|17=>2|18=>9|19=>10|n=>n⟩
theorem laysM171:Go.Proofs.LaysM.n171 Pg Tryz.laysM171_ren:={
 mixed:=by kernel_rfl
 f129:=func263.trans (congrArg T (by kernel_rfl))
 f171:=func55.trans (congrArg T (by kernel_rfl))
 f243:=func113.trans (congrArg T (by kernel_rfl))
 f246:=func170.trans (congrArg T (by kernel_rfl))
 f283:=func222.trans (congrArg T (by kernel_rfl))
 f284:=func223.trans (congrArg T (by kernel_rfl))
 f285:=func224.trans (congrArg T (by kernel_rfl))
 f286:=func225.trans (congrArg T (by kernel_rfl))
 f317:=func268.trans (congrArg T (by kernel_rfl))
 f318:=func269.trans (congrArg T (by kernel_rfl))
 f319:=func270.trans (congrArg T (by kernel_rfl))
 f320:=func271.trans (congrArg T (by kernel_rfl))
 f337:=func292.trans (congrArg T (by kernel_rfl))
 f338:=func293.trans (congrArg T (by kernel_rfl))
 t0:=underlying0
 a0:=isAgg0
 z0:=sizeOf0
 v0:=zeroValue0
 t2:=underlying2
 a2:=isAgg2
 z2:=sizeOf2
 v2:=zeroValue2
 t3:=underlying3
 a3:=isAgg3
 z3:=sizeOf3
 v3:=zeroValue3
 t4:=underlying4
 a4:=isAgg4
 z4:=sizeOf4
 v4:=zeroValue4
 t5:=underlying5
 a5:=isAgg5
 z5:=sizeOf5
 v5:=zeroValue5
 t9:=underlying9
 a9:=isAgg9
 z9:=sizeOf9
 v9:=zeroValue9
 t20:=underlying20
 a20:=isAgg20
 z20:=sizeOf20
 v20:=zeroValue20
 t37:=underlying22
 a37:=isAgg22
 z37:=sizeOf22
 v37:=zeroValue22
 t46:=underlying260
 a46:=isAgg260
 z46:=sizeOf260
 v46:=zeroValue260
 t51:=underlying309
 a51:=isAgg309
 z51:=sizeOf309
 v51:=zeroValue309
 t53:=underlying203
 a53:=isAgg203
 z53:=sizeOf203
 v53:=zeroValue203
 t171:=underlying294
 a171:=isAgg294
 z171:=sizeOf294
 v171:=zeroValue294
 t173:=underlying297
 a173:=isAgg297
 z173:=sizeOf297
 v173:=zeroValue297
 t212:=underlying338
 a212:=isAgg338
 z212:=sizeOf338
 v212:=zeroValue338
 t213:=underlying339
 a213:=isAgg339
 z213:=sizeOf339
 t232:=underlying369
 a232:=isAgg369
 z232:=sizeOf369
 v232:=zeroValue369
 t233:=underlying370
 a233:=isAgg370
 z233:=sizeOf370
 v233:=zeroValue370
 g17:=by kernel_rfl
 g18:=by kernel_rfl
 g19:=by kernel_rfl
 i0:=by kernel_rfl
 i2:=by kernel_rfl
 i3:=by kernel_rfl
 i4:=by kernel_rfl
 i5:=by kernel_rfl
 i9:=by kernel_rfl
 i20:=by kernel_rfl
 i37:=by kernel_rfl
 i46:=by kernel_rfl
 i51:=by kernel_rfl
 i53:=by kernel_rfl
 i171:=by kernel_rfl
 i173:=by kernel_rfl
 i212:=by kernel_rfl
 i232:=by kernel_rfl
 i233:=by kernel_rfl
 m17:=by kernel_rfl
 m18:=by kernel_rfl
 m19:=by kernel_rfl }
open RowKit Go.Sort Go.Lib in
theorem Tryz.strconv_Itoa (n:Int)(f:-9223372036854775808<=n)(h1:n<=9223372036854775807)(w:M)(b:Lib.TabIs Pg w "internal/strconv.uint64pow10" .u64 Lib.pow10Tab):Calls Pg 55 #[J I n] w λe c=>e=ZF (Y ⟨(Lib.itoa n).toArray⟩)/\∃k os,c=grow (w.drewN k) os:=Any.strconv_Itoa laysM171 n f h1 w b
def Tryz.laysC172_ren:Go.Shelf.Ren:=⟨λ|172=>300|244=>310|245=>311|247=>317|279=>318|280=>319|281=>320|282=>321|287=>324|316=>325|171=>55|205=>326|321=>334|322=>335|243=>113|246=>170|283=>222|284=>223|285=>224|286=>225|129=>263|317=>268|318=>269|319=>270|320=>271|337=>292|338=>293|n=>n,λ|9=>9|3=>3|75=>207|76=>211|4=>4|5=>5|167=>376|37=>22|0=>0|85=>377|2=>2|168=>379|53=>203|175=>382|46=>260|210=>385|127=>215|145=>397|143=>395|21=>21|171=>294|173=>297|212=>338|51=>309|20=>20|213=>339|232=>369|233=>370|80=>133|n=>n,λ|15=>11|16=>12|17=>2|18=>9|19=>10|n=>n⟩
theorem laysC172:Go.Proofs.LaysC.n172 Pg Tryz.laysC172_ren:={
 mixed:=by kernel_rfl
 f129:=func263.trans (congrArg T (by kernel_rfl))
 f171:=func55.trans (congrArg T (by kernel_rfl))
 f172:=func300.trans (congrArg T (by kernel_rfl))
 f205:=func326.trans (congrArg T (by kernel_rfl))
 f243:=func113.trans (congrArg T (by kernel_rfl))
 f244:=func310.trans (congrArg T (by kernel_rfl))
 f245:=func311.trans (congrArg T (by kernel_rfl))
 f246:=func170.trans (congrArg T (by kernel_rfl))
 f247:=func317.trans (congrArg T (by kernel_rfl))
 f279:=func318.trans (congrArg T (by kernel_rfl))
 f280:=func319.trans (congrArg T (by kernel_rfl))
 f281:=func320.trans (congrArg T (by kernel_rfl))
 f282:=func321.trans (congrArg T (by kernel_rfl))
 f283:=func222.trans (congrArg T (by kernel_rfl))
 f284:=func223.trans (congrArg T (by kernel_rfl))
 f285:=func224.trans (congrArg T (by kernel_rfl))
 f286:=func225.trans (congrArg T (by kernel_rfl))
 f287:=func324.trans (congrArg T (by kernel_rfl))
 f316:=func325.trans (congrArg T (by kernel_rfl))
 f317:=func268.trans (congrArg T (by kernel_rfl))
 f318:=func269.trans (congrArg T (by kernel_rfl))
 f319:=func270.trans (congrArg T (by kernel_rfl))
 f320:=func271.trans (congrArg T (by kernel_rfl))
 f321:=func334.trans (congrArg T (by kernel_rfl))
 f322:=func335.trans (congrArg T (by kernel_rfl))
 f337:=func292.trans (congrArg T (by kernel_rfl))
 f338:=func293.trans (congrArg T (by kernel_rfl))
 t0:=underlying0
 a0:=isAgg0
 z0:=sizeOf0
 v0:=zeroValue0
 t2:=underlying2
 a2:=isAgg2
 z2:=sizeOf2
 v2:=zeroValue2
 t3:=underlying3
 a3:=isAgg3
 z3:=sizeOf3
 v3:=zeroValue3
 t4:=underlying4
 a4:=isAgg4
 z4:=sizeOf4
 v4:=zeroValue4
 t5:=underlying5
 a5:=isAgg5
 z5:=sizeOf5
 v5:=zeroValue5
 t9:=underlying9
 a9:=isAgg9
 z9:=sizeOf9
 v9:=zeroValue9
 t20:=underlying20
 a20:=isAgg20
 z20:=sizeOf20
 v20:=zeroValue20
 t21:=underlying21
 a21:=isAgg21
 z21:=sizeOf21
 v21:=zeroValue21
 t37:=underlying22
 a37:=isAgg22
 z37:=sizeOf22
 v37:=zeroValue22
 t46:=underlying260
 a46:=isAgg260
 z46:=sizeOf260
 v46:=zeroValue260
 t51:=underlying309
 a51:=isAgg309
 z51:=sizeOf309
 v51:=zeroValue309
 t53:=underlying203
 a53:=isAgg203
 z53:=sizeOf203
 v53:=zeroValue203
 t75:=underlying207
 a75:=isAgg207
 z75:=sizeOf207
 v75:=zeroValue207
 t76:=underlying211
 a76:=isAgg211
 z76:=sizeOf211
 v76:=zeroValue211
 t85:=underlying377
 a85:=isAgg377
 z85:=sizeOf377
 v85:=zeroValue377
 t127:=underlying215
 a127:=isAgg215
 z127:=sizeOf215
 v127:=zeroValue215
 t143:=underlying395
 a143:=isAgg395
 z143:=sizeOf395
 v143:=zeroValue395
 t145:=underlying397
 a145:=isAgg397
 z145:=sizeOf397
 v145:=zeroValue397
 t167:=underlying376
 a167:=isAgg376
 z167:=sizeOf376
 v167:=zeroValue376
 t168:=underlying379
 a168:=isAgg379
 z168:=sizeOf379
 v168:=zeroValue379
 t171:=underlying294
 a171:=isAgg294
 z171:=sizeOf294
 v171:=zeroValue294
 t173:=underlying297
 a173:=isAgg297
 z173:=sizeOf297
 v173:=zeroValue297
 t175:=underlying382
 a175:=isAgg382
 z175:=sizeOf382
 v175:=zeroValue382
 t210:=underlying385
 a210:=isAgg385
 z210:=sizeOf385
 v210:=zeroValue385
 t212:=underlying338
 a212:=isAgg338
 z212:=sizeOf338
 v212:=zeroValue338
 t213:=underlying339
 a213:=isAgg339
 z213:=sizeOf339
 t232:=underlying369
 a232:=isAgg369
 z232:=sizeOf369
 v232:=zeroValue369
 t233:=underlying370
 a233:=isAgg370
 z233:=sizeOf370
 v233:=zeroValue370
 g15:=by kernel_rfl
 g16:=by kernel_rfl
 g17:=by kernel_rfl
 g18:=by kernel_rfl
 g19:=by kernel_rfl
 t80:=underlying133
 a80:=isAgg133
 z80:=sizeOf133
 v80:=zeroValue133
 i0:=by kernel_rfl
 i2:=by kernel_rfl
 i3:=by kernel_rfl
 i4:=by kernel_rfl
 i5:=by kernel_rfl
 i9:=by kernel_rfl
 i20:=by kernel_rfl
 i21:=by kernel_rfl
 i37:=by kernel_rfl
 i46:=by kernel_rfl
 i51:=by kernel_rfl
 i53:=by kernel_rfl
 i75:=by kernel_rfl
 i76:=by kernel_rfl
 i80:=by kernel_rfl
 i85:=by kernel_rfl
 i127:=by kernel_rfl
 i143:=by kernel_rfl
 i145:=by kernel_rfl
 i167:=by kernel_rfl
 i168:=by kernel_rfl
 i171:=by kernel_rfl
 i173:=by kernel_rfl
 i175:=by kernel_rfl
 i210:=by kernel_rfl
 i212:=by kernel_rfl
 i232:=by kernel_rfl
 i233:=by kernel_rfl
 m15:=by kernel_rfl
 m16:=by kernel_rfl
 m17:=by kernel_rfl
 m18:=by kernel_rfl
 m19:=by kernel_rfl
 c0:=by kernel_rfl
 c2:=by kernel_rfl
 c3:=by kernel_rfl
 c4:=by kernel_rfl
 c5:=by kernel_rfl
 c9:=by kernel_rfl
 c20:=by kernel_rfl
 c21:=by kernel_rfl
 c37:=by kernel_rfl
 c46:=by kernel_rfl
 c51:=by kernel_rfl
 c53:=by kernel_rfl
 c75:=by kernel_rfl
 c76:=by kernel_rfl
 c80:=by kernel_rfl
 c85:=by kernel_rfl
 c127:=by kernel_rfl
 c143:=by kernel_rfl
 c145:=by kernel_rfl
 c167:=by kernel_rfl
 c168:=by kernel_rfl
 c171:=by kernel_rfl
 c173:=by kernel_rfl
 c175:=by kernel_rfl
 c210:=by kernel_rfl
 c212:=by kernel_rfl
 c213:=by kernel_rfl
 c232:=by kernel_rfl
 c233:=by kernel_rfl }
open RowKit in
theorem Tryz.strconv_Atoi_ok (s:ByteArray)(b:s.size<=9223372036854775806)(v:Int)(h:Lib.atoiAll s.data.toList=.ok v)(w:M):Calls Pg 300 #[Y s] w λe c=>e=ZF (.tuple #[J I v,.nilIface])/\(c=w∨∃t,c=Lib.bytesWorld w 5 t):=Any.strconv_Atoi_ok laysC172 s b v h w
open RowKit in
theorem Tryz.strconv_Atoi_syntax (s:ByteArray)(c:s.size<=281474976710656)(h:Lib.atoiAll s.data.toList=.«syntax»)(b:Value)(w:M)(j:w.cell? (Q 11 0 U)=T b)(g:b=.nilIface∨∃l i,b=.iface l i):Calls Pg 300 #[Y s] w λe f=>∃ZO,e=ZF (.tuple #[J I (0),.iface 379 (.pointer (T (Q ZO 0 U)))])/\w.heap.size<=ZO/\f.heap[ZO]?=T (.cells #[Y ⟨#[65,116,111,105]⟩,Y s,b] 385 (0,0))/\Below w.heap.size w f:=Any.strconv_Atoi_syntax laysC172 s c h b w j g
open RowKit in
theorem Tryz.strconv_Atoi_range (s:ByteArray)(c:s.size<=281474976710656)(h:Lib.atoiAll s.data.toList=.range)(b:Value)(w:M)(j:w.cell? (Q 12 0 U)=T b)(g:b=.nilIface∨∃l i,b=.iface l i):Calls Pg 300 #[Y s] w λe f=>∃ZO,e=ZF (.tuple #[J I (Lib.atoiSat s.data.toList),.iface 379 (.pointer (T (Q ZO 0 U)))])/\w.heap.size<=ZO/\f.heap[ZO]?=T (.cells #[Y ⟨#[65,116,111,105]⟩,Y s,b] 385 (0,0))/\Below w.heap.size w f:=Any.strconv_Atoi_range laysC172 s c h b w j g
def Tryz.lays219_ren:Go.Shelf.Ren:=⟨λ|219=>299|217=>278|225=>307|224=>308|267=>309|266=>298|314=>316|n=>n,λ|9=>9|3=>3|4=>4|5=>5|46=>260|146=>310|51=>309|n=>n,λ|1=>4|n=>n⟩
theorem lays219:Go.Proofs.Lays.n219 Pg Tryz.lays219_ren:={
 mixed:=by kernel_rfl
 f217:=func278.trans (congrArg T (by kernel_rfl))
 f219:=func299.trans (congrArg T (by kernel_rfl))
 f224:=func308.trans (congrArg T (by kernel_rfl))
 f225:=func307.trans (congrArg T (by kernel_rfl))
 f266:=func298.trans (congrArg T (by kernel_rfl))
 f267:=func309.trans (congrArg T (by kernel_rfl))
 f314:=func316.trans (congrArg T (by kernel_rfl))
 t3:=underlying3
 a3:=isAgg3
 z3:=sizeOf3
 v3:=zeroValue3
 t4:=underlying4
 a4:=isAgg4
 z4:=sizeOf4
 v4:=zeroValue4
 t5:=underlying5
 a5:=isAgg5
 z5:=sizeOf5
 v5:=zeroValue5
 t9:=underlying9
 a9:=isAgg9
 z9:=sizeOf9
 v9:=zeroValue9
 t46:=underlying260
 a46:=isAgg260
 z46:=sizeOf260
 v46:=zeroValue260
 t51:=underlying309
 a51:=isAgg309
 z51:=sizeOf309
 v51:=zeroValue309
 t146:=underlying310
 a146:=isAgg310
 z146:=sizeOf310
 v146:=zeroValue310
 g1:=by kernel_rfl }
open RowKit Go.Lib in
theorem Tryz.stringslite_Index_one (s:ByteArray)(c:UInt8)(w:M):Calls Pg 299 #[Y s,Y ⟨#[c]⟩] w λe b=>e=ZF (J I (Lib.indexByte s.data.toList c))/\b=w:=Any.stringslite_Index_one lays219 s c w
def Tryz.lays206_ren:Go.Shelf.Ren:=⟨λ|206=>239|n=>n,λ|9=>9|4=>4|3=>3|n=>n,λ|n=>n⟩
def Tryz.lays102_ren:Go.Shelf.Ren:=⟨λ|102=>194|209=>247|207=>283|n=>n,λ|9=>9|4=>4|3=>3|n=>n,λ|n=>n⟩
theorem lays102:Go.Proofs.Lays.n102 Pg Tryz.lays102_ren:={
 mixed:=by kernel_rfl
 f102:=func194.trans (congrArg T (by kernel_rfl))
 f207:=func283.trans (congrArg T (by kernel_rfl))
 f209:=func247.trans (congrArg T (by kernel_rfl))
 t3:=underlying3
 a3:=isAgg3
 z3:=sizeOf3
 v3:=zeroValue3
 t4:=underlying4
 a4:=isAgg4
 z4:=sizeOf4
 v4:=zeroValue4
 t9:=underlying9
 a9:=isAgg9
 z9:=sizeOf9
 v9:=zeroValue9 }
open RowKit Go.Lib in
theorem Tryz.strings_TrimSuffix (s p:ByteArray)(w:M)(c:s.size<=9223372036854775807):Calls Pg 194 #[Y s,Y p] w λe b=>e=ZF (Y ⟨(Lib.trimSuffix s.data.toList p.data.toList).toArray⟩)/\b=w:=Any.strings_TrimSuffix lays102 s p w c
def Tryz.lays105_ren:Go.Shelf.Ren:=⟨λ|105=>135|212=>186|99=>187|165=>188|166=>138|170=>81|169=>82|263=>237|264=>238|206=>239|240=>195|241=>240|276=>248|277=>277|n=>n,λ|9=>9|3=>3|4=>4|20=>20|0=>0|46=>260|109=>261|5=>5|72=>127|76=>211|51=>309|146=>310|53=>203|148=>312|70=>125|37=>22|75=>207|127=>215|164=>321|80=>133|n=>n,λ|n=>n⟩
theorem lays105:Go.Proofs.Lays.n105 Pg Tryz.lays105_ren:={
 mixed:=by kernel_rfl
 f99:=func187.trans (congrArg T (by kernel_rfl))
 f105:=func135.trans (congrArg T (by kernel_rfl))
 f165:=func188.trans (congrArg T (by kernel_rfl))
 f166:=func138.trans (congrArg T (by kernel_rfl))
 f169:=func82.trans (congrArg T (by kernel_rfl))
 f170:=func81.trans (congrArg T (by kernel_rfl))
 f206:=func239.trans (congrArg T (by kernel_rfl))
 f212:=func186.trans (congrArg T (by kernel_rfl))
 f240:=func195.trans (congrArg T (by kernel_rfl))
 f241:=func240.trans (congrArg T (by kernel_rfl))
 f263:=func237.trans (congrArg T (by kernel_rfl))
 f264:=func238.trans (congrArg T (by kernel_rfl))
 f276:=func248.trans (congrArg T (by kernel_rfl))
 f277:=func277.trans (congrArg T (by kernel_rfl))
 t0:=underlying0
 a0:=isAgg0
 z0:=sizeOf0
 v0:=zeroValue0
 t3:=underlying3
 a3:=isAgg3
 z3:=sizeOf3
 v3:=zeroValue3
 t4:=underlying4
 a4:=isAgg4
 z4:=sizeOf4
 v4:=zeroValue4
 t5:=underlying5
 a5:=isAgg5
 z5:=sizeOf5
 v5:=zeroValue5
 t9:=underlying9
 a9:=isAgg9
 z9:=sizeOf9
 v9:=zeroValue9
 t20:=underlying20
 a20:=isAgg20
 z20:=sizeOf20
 v20:=zeroValue20
 t37:=underlying22
 a37:=isAgg22
 z37:=sizeOf22
 v37:=zeroValue22
 t46:=underlying260
 a46:=isAgg260
 z46:=sizeOf260
 v46:=zeroValue260
 t51:=underlying309
 a51:=isAgg309
 z51:=sizeOf309
 v51:=zeroValue309
 t53:=underlying203
 a53:=isAgg203
 z53:=sizeOf203
 v53:=zeroValue203
 t70:=underlying125
 a70:=isAgg125
 z70:=sizeOf125
 v70:=zeroValue125
 t72:=underlying127
 a72:=isAgg127
 z72:=sizeOf127
 v72:=zeroValue127
 t75:=underlying207
 a75:=isAgg207
 z75:=sizeOf207
 v75:=zeroValue207
 t76:=underlying211
 a76:=isAgg211
 z76:=sizeOf211
 v76:=zeroValue211
 t109:=underlying261
 a109:=isAgg261
 z109:=sizeOf261
 v109:=zeroValue261
 t127:=underlying215
 a127:=isAgg215
 z127:=sizeOf215
 v127:=zeroValue215
 t146:=underlying310
 a146:=isAgg310
 z146:=sizeOf310
 v146:=zeroValue310
 t148:=underlying312
 a148:=isAgg312
 z148:=sizeOf312
 v148:=zeroValue312
 t164:=underlying321
 a164:=isAgg321
 z164:=sizeOf321
 v164:=zeroValue321 }
theorem Tryz.Builder_Extra_105:Builder.Extra Pg Tryz.lays105_ren:={
 sizeBuilder:=by kernel_rfl
 liesBuilder:=by kernel_rfl
 t5:=underlying5
 a5:=isAgg5
 z5:=sizeOf5
 v5:=zeroValue5
 infoByte:=by kernel_rfl
 cellsByte:=by kernel_rfl
 sizeByte:=by kernel_rfl
 neB5:=by decide }
open RowKit Go.Lib in
theorem Tryz.strings_Repeat (s:ByteArray)(c:Nat)(w:M)(g:c<=9223372036854775807)(b:s.size*c<=140737488355328):Calls Pg 135 #[Y s,J I c] w λe f=>e=ZF (Y ⟨(Lib.repeatL s.data.toList c).toArray⟩)/\Below w.heap.size w f:=Any.strings_Repeat lays105 Tryz.Builder_Extra_105 s c w g b
