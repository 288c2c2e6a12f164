import Derived.Shelf.Strings.Builder1
import Derived.Shelf.Strings.Builder2
import Derived.Shelf.Strings.OnBuilder
import Derived.Shelf.Small.Strs
import Derived.Shelf.Strings.BuilderF
import Derived.Shelf.Strings.BuilderK
import Derived.Shelf.Strconv.Atoi
import Derived.Shelf.Strconv.Itoa0
import Derived.Shelf.Strconv.Itoa1
import Derived.Shelf.LaysM
import Derived.Shelf.Strconv.Itoa2
import Derived.Shelf.Strconv.Itoa3
import Derived.Shelf.Strconv.AtoiErrFast
import Derived.Shelf.Strconv.ParseIntEmpty
import Derived.Shelf.Strconv.AtoiFail
import Derived.Shelf.Strconv.Clone
import Derived.Shelf.Strconv.SyntaxError
import Derived.Shelf.LaysC
import Derived.Shelf.Strconv.ToError
import Derived.Shelf.Strconv.AtoiErr
import Derived.Shelf.Strconv.ErrVar
import Derived.Shelf.Strconv.Lower
import Derived.Shelf.Strconv.ParseUint10
import Derived.Shelf.Strconv.ParseUint10Empty
import Derived.Shelf.Strconv.ParseUint10Any
import Derived.Shelf.Strconv.ParseInt10
import Derived.Shelf.Strconv.AtoiLong
import Derived.Shelf.Strconv.AtoiInnerAll
import Derived.Shelf.Strconv.RangeError
import Derived.Shelf.Strconv.ToErrorRange
import Derived.Shelf.Strconv.AtoiAll
import Derived.Shelf.Strconv.ErrVarAll
import Derived.Shelf.Strings.Search1
import Derived.Shelf.Strings.Search2
import Derived.Shelf.Strings.Cut
import Derived.Shelf.Strings.Shaped
import Derived.Shelf.Strings.Prefix
import Derived.Shelf.Bits.Mul64
import Derived.Shelf.Strings.Repeat
import Derived.Test.YtoddkejemcbkmaaGreatDoorProg
open Go renaming Addr.mk->Q,Value.string->U,Value.int->J,IntKind.i64->I,World->M,Ending.returned->ZF,Proofs.Tryz.prog->Pg
open Option renaming none->Y,some->T
namespace Go.Proofs
open Tryz Go.Shelf
def Tryz.lays169_ren:Go.Shelf.Ren:=⟨λ|169=>27|n=>n,λ|70=>50|9=>9|0=>0|72=>52|37=>22|127=>101|3=>3|5=>5|n=>n,λ|n=>n⟩
theorem lays169:Go.Proofs.Lays.n169 Pg Tryz.lays169_ren:={
 mixed:=by kernel_rfl
 f169:=func27.trans (congrArg T (by kernel_rfl))
 t0:=underlying0
 a0:=isAgg0
 z0:=sizeOf0
 v0:=zeroValue0
 t3:=underlying3
 a3:=isAgg3
 z3:=sizeOf3
 v3:=zeroValue3
 t9:=underlying9
 a9:=isAgg9
 z9:=sizeOf9
 v9:=zeroValue9
 t37:=underlying22
 a37:=isAgg22
 z37:=sizeOf22
 v37:=zeroValue22
 t70:=underlying50
 a70:=isAgg50
 z70:=sizeOf50
 v70:=zeroValue50
 t72:=underlying52
 a72:=isAgg52
 z72:=sizeOf52
 v72:=zeroValue52
 t127:=underlying101
 a127:=isAgg101
 z127:=sizeOf101
 v127:=zeroValue101 }
theorem Tryz.Builder_Extra_169:Builder.Extra Pg Tryz.lays169_ren:={
 sizeBuilder:=by kernel_rfl
 liesBuilder:=by kernel_rfl
 t5:=underlying5
 a5:=isAgg5
 z5:=sizeOf5
 v5:=zeroValue5
 infoByte:=by kernel_rfl
 cellsByte:=by kernel_rfl
 sizeByte:=by kernel_rfl
 neB5:=by decide }
def Tryz.lays156_ren:Go.Shelf.Ren:=⟨λ|156=>46|165=>91|166=>45|169=>27|240=>90|241=>126|276=>125|277=>152|n=>n,λ|31=>66|9=>9|3=>3|4=>4|0=>0|20=>20|72=>52|76=>97|70=>50|37=>22|75=>69|127=>101|164=>191|5=>5|80=>65|n=>n,λ|n=>n⟩
theorem lays156:Go.Proofs.Lays.n156 Pg Tryz.lays156_ren:={
 mixed:=by kernel_rfl
 f156:=func46.trans (congrArg T (by kernel_rfl))
 f165:=func91.trans (congrArg T (by kernel_rfl))
 f166:=func45.trans (congrArg T (by kernel_rfl))
 f169:=func27.trans (congrArg T (by kernel_rfl))
 f240:=func90.trans (congrArg T (by kernel_rfl))
 f241:=func126.trans (congrArg T (by kernel_rfl))
 f276:=func125.trans (congrArg T (by kernel_rfl))
 f277:=func152.trans (congrArg T (by kernel_rfl))
 t0:=underlying0
 a0:=isAgg0
 z0:=sizeOf0
 v0:=zeroValue0
 t3:=underlying3
 a3:=isAgg3
 z3:=sizeOf3
 v3:=zeroValue3
 t4:=underlying4
 a4:=isAgg4
 z4:=sizeOf4
 v4:=zeroValue4
 t9:=underlying9
 a9:=isAgg9
 z9:=sizeOf9
 v9:=zeroValue9
 t20:=underlying20
 a20:=isAgg20
 z20:=sizeOf20
 v20:=zeroValue20
 t31:=underlying66
 a31:=isAgg66
 z31:=sizeOf66
 v31:=zeroValue66
 t37:=underlying22
 a37:=isAgg22
 z37:=sizeOf22
 v37:=zeroValue22
 t70:=underlying50
 a70:=isAgg50
 z70:=sizeOf50
 v70:=zeroValue50
 t72:=underlying52
 a72:=isAgg52
 z72:=sizeOf52
 v72:=zeroValue52
 t75:=underlying69
 a75:=isAgg69
 z75:=sizeOf69
 v75:=zeroValue69
 t76:=underlying97
 a76:=isAgg97
 z76:=sizeOf97
 v76:=zeroValue97
 t127:=underlying101
 a127:=isAgg101
 z127:=sizeOf101
 v127:=zeroValue101
 t164:=underlying191
 a164:=isAgg191
 z164:=sizeOf191
 v164:=zeroValue191 }
theorem Tryz.Builder_Extra_156:Builder.Extra Pg Tryz.lays156_ren:={
 sizeBuilder:=by kernel_rfl
 liesBuilder:=by kernel_rfl
 t5:=underlying5
 a5:=isAgg5
 z5:=sizeOf5
 v5:=zeroValue5
 infoByte:=by kernel_rfl
 cellsByte:=by kernel_rfl
 sizeByte:=by kernel_rfl
 neB5:=by decide }
open RowKit in
theorem Tryz.strings_Join (h o c:Nat)(b:List ByteArray)(f:ByteArray)(w:M)(g:∀(j:Nat) x,b[j]?=T x->w.cell? (Q h (o+j) Y)=T (U x))(m:h<w.heap.size)(n:b.length<=140737488355328)(i:b.length<=c)(l:(Lib.join (b.map (·.data.toList)) f.data.toList).length<=140737488355328):Calls Pg 46 #[.slice (T (Q h o Y)) b.length c,U f] w λe p=>e=ZF (U ⟨(Lib.join (b.map (·.data.toList)) f.data.toList).toArray⟩)/\Below w.heap.size w p:=Any.strings_Join lays156 Tryz.Builder_Extra_156 h o c b f w g m n i l
def Tryz.lays137_ren:Go.Shelf.Ren:=⟨λ|137=>101|217=>135|266=>158|n=>n,λ|9=>9|5=>5|3=>3|n=>n,λ|n=>n⟩
theorem lays137:Go.Proofs.Lays.n137 Pg Tryz.lays137_ren:={
 mixed:=by kernel_rfl
 f137:=func101.trans (congrArg T (by kernel_rfl))
 f217:=func135.trans (congrArg T (by kernel_rfl))
 f266:=func158.trans (congrArg T (by kernel_rfl))
 t3:=underlying3
 a3:=isAgg3
 z3:=sizeOf3
 v3:=zeroValue3
 t5:=underlying5
 a5:=isAgg5
 z5:=sizeOf5
 v5:=zeroValue5
 t9:=underlying9
 a9:=isAgg9
 z9:=sizeOf9
 v9:=zeroValue9 }
open RowKit in
theorem Tryz.strings_IndexByte (s:ByteArray)(c:Int)(w:M):Calls Pg 101 #[U s,J .u8 c] w λe b=>e=ZF (J I (Lib.indexByte s.data.toList c.toNat.toUInt8))/\b=w:=Any.strings_IndexByte lays137 s c w
open RowKit in
theorem Tryz.Builder_String_any_k (B b:Nat)(l:List UInt8)(w:M)(h:Lib.IsBuilderF 52 5 B b (Lib.byteCells l) w)(f:B<=w.heap.size):Calls Pg 27 #[.pointer (T (Q b 0 Y))] w λe c=>e=ZF (U ⟨l.toArray⟩)/\(Lib.IsBuilderF 52 5 B b (Lib.byteCells l) c/\Below B w c/\Lib.OthersKept 5 (T b) w c):=Any.Builder_String_any_k lays169 Tryz.Builder_Extra_169 B b l w h f
def Tryz.lays172_ren:Go.Shelf.Ren:=⟨λ|172=>160|244=>172|245=>173|247=>176|279=>177|280=>178|281=>179|282=>180|287=>185|316=>186|171=>24|205=>187|321=>189|322=>190|243=>48|246=>92|283=>127|284=>128|285=>129|286=>130|129=>154|317=>153|318=>155|319=>156|320=>157|337=>167|338=>168|n=>n,λ|9=>9|3=>3|75=>69|76=>97|4=>4|5=>5|167=>243|37=>22|0=>0|85=>244|2=>2|168=>246|53=>117|175=>253|46=>149|210=>256|127=>101|145=>260|143=>258|21=>21|171=>193|173=>196|212=>220|51=>208|20=>20|213=>221|232=>240|233=>241|80=>65|n=>n,λ|15=>11|16=>12|17=>3|18=>9|19=>10|n=>n⟩
def Tryz.laysM246_ren:Go.Shelf.Ren:=⟨λ|246=>92|283=>127|284=>128|285=>129|286=>130|129=>154|317=>153|318=>155|319=>156|320=>157|337=>167|338=>168|n=>n,λ|2=>2|3=>3|9=>9|4=>4|171=>193|0=>0|53=>117|37=>22|5=>5|173=>196|212=>220|51=>208|20=>20|213=>221|46=>149|232=>240|233=>241|n=>n,λ|17=>3|18=>9|19=>10|n=>n⟩
def Tryz.laysM243_ren:Go.Shelf.Ren:=⟨λ|243=>48|246=>92|283=>127|284=>128|285=>129|286=>130|129=>154|317=>153|318=>155|319=>156|320=>157|337=>167|338=>168|n=>n,λ|3=>3|9=>9|2=>2|4=>4|171=>193|0=>0|53=>117|37=>22|5=>5|173=>196|212=>220|51=>208|20=>20|213=>221|46=>149|232=>240|233=>241|n=>n,λ|17=>3|18=>9|19=>10|n=>n⟩
def Tryz.laysM171_ren:Go.Shelf.Ren:=⟨λ|171=>24|243=>48|246=>92|283=>127|284=>128|285=>129|286=>130|129=>154|317=>153|318=>155|319=>156|320=>157|337=>167|338=>168|n=>n,λ|3=>3|9=>9|2=>2|4=>4|171=>193|0=>0|53=>117|37=>22|5=>5|173=>196|212=>220|51=>208|20=>20|213=>221|46=>149|232=>240|233=>241|n=>n,λ|17=>3|18=>9|19=>10|n=>n⟩
theorem laysM171:Go.Proofs.LaysM.n171 Pg Tryz.laysM171_ren:={
 mixed:=by kernel_rfl
 f129:=func154.trans (congrArg T (by kernel_rfl))
 f171:=func24.trans (congrArg T (by kernel_rfl))
 f243:=func48.trans (congrArg T (by kernel_rfl))
 f246:=func92.trans (congrArg T (by kernel_rfl))
 f283:=func127.trans (congrArg T (by kernel_rfl))
 f284:=func128.trans (congrArg T (by kernel_rfl))
 f285:=func129.trans (congrArg T (by kernel_rfl))
 f286:=func130.trans (congrArg T (by kernel_rfl))
 f317:=func153.trans (congrArg T (by kernel_rfl))
 f318:=func155.trans (congrArg T (by kernel_rfl))
 f319:=func156.trans (congrArg T (by kernel_rfl))
 f320:=func157.trans (congrArg T (by kernel_rfl))
 f337:=func167.trans (congrArg T (by kernel_rfl))
 f338:=func168.trans (congrArg T (by kernel_rfl))
 t0:=underlying0
 a0:=isAgg0
 z0:=sizeOf0
 v0:=zeroValue0
 t2:=underlying2
 a2:=isAgg2
 z2:=sizeOf2
 v2:=zeroValue2
 t3:=underlying3
 a3:=isAgg3
 z3:=sizeOf3
 v3:=zeroValue3
 t4:=underlying4
 a4:=isAgg4
 z4:=sizeOf4
 v4:=zeroValue4
 t5:=underlying5
 a5:=isAgg5
 z5:=sizeOf5
 v5:=zeroValue5
 t9:=underlying9
 a9:=isAgg9
 z9:=sizeOf9
 v9:=zeroValue9
 t20:=underlying20
 a20:=isAgg20
 z20:=sizeOf20
 v20:=zeroValue20
 t37:=underlying22
 a37:=isAgg22
 z37:=sizeOf22
 v37:=zeroValue22
 t46:=underlying149
 a46:=isAgg149
 z46:=sizeOf149
 v46:=zeroValue149
 t51:=underlying208
 a51:=isAgg208
 z51:=sizeOf208
 v51:=zeroValue208
 t53:=underlying117
 a53:=isAgg117
 z53:=sizeOf117
 v53:=zeroValue117
 t171:=underlying193
 a171:=isAgg193
 z171:=sizeOf193
 v171:=zeroValue193
 t173:=underlying196
 a173:=isAgg196
 z173:=sizeOf196
 v173:=zeroValue196
 t212:=underlying220
 a212:=isAgg220
 z212:=sizeOf220
 v212:=zeroValue220
 t213:=underlying221
 a213:=isAgg221
 z213:=sizeOf221
 t232:=underlying240
 a232:=isAgg240
 z232:=sizeOf240
 v232:=zeroValue240
 t233:=underlying241
 a233:=isAgg241
 z233:=sizeOf241
 v233:=zeroValue241
 g17:=by kernel_rfl
 g18:=by kernel_rfl
 g19:=by kernel_rfl
 i0:=by kernel_rfl
 i2:=by kernel_rfl
 i3:=by kernel_rfl
 i4:=by kernel_rfl
 i5:=by kernel_rfl
 i9:=by kernel_rfl
 i20:=by kernel_rfl
 i37:=by kernel_rfl
 i46:=by kernel_rfl
 i51:=by kernel_rfl
 i53:=by kernel_rfl
 i171:=by kernel_rfl
 i173:=by kernel_rfl
 i212:=by kernel_rfl
 i232:=by kernel_rfl
 i233:=by kernel_rfl
 m17:=by kernel_rfl
 m18:=by kernel_rfl
 m19:=by kernel_rfl }
open RowKit Go.Sort Go.Lib in
theorem Tryz.strconv_Itoa (n:Int)(c:-9223372036854775808<=n)(h1:n<=9223372036854775807)(w:M)(b:Lib.TabIs Pg w "internal/strconv.uint64pow10" .u64 Lib.pow10Tab):Calls Pg 24 #[J I n] w λe f=>e=ZF (U ⟨(Lib.itoa n).toArray⟩)/\∃k os,f=grow (w.drewN k) os:=Any.strconv_Itoa laysM171 n c h1 w b
def Tryz.laysC172_ren:Go.Shelf.Ren:=⟨λ|172=>160|244=>172|245=>173|247=>176|279=>177|280=>178|281=>179|282=>180|287=>185|316=>186|171=>24|205=>187|321=>189|322=>190|243=>48|246=>92|283=>127|284=>128|285=>129|286=>130|129=>154|317=>153|318=>155|319=>156|320=>157|337=>167|338=>168|n=>n,λ|9=>9|3=>3|75=>69|76=>97|4=>4|5=>5|167=>243|37=>22|0=>0|85=>244|2=>2|168=>246|53=>117|175=>253|46=>149|210=>256|127=>101|145=>260|143=>258|21=>21|171=>193|173=>196|212=>220|51=>208|20=>20|213=>221|232=>240|233=>241|80=>65|n=>n,λ|15=>11|16=>12|17=>3|18=>9|19=>10|n=>n⟩
theorem laysC172:Go.Proofs.LaysC.n172 Pg Tryz.laysC172_ren:={
 mixed:=by kernel_rfl
 f129:=func154.trans (congrArg T (by kernel_rfl))
 f171:=func24.trans (congrArg T (by kernel_rfl))
 f172:=func160.trans (congrArg T (by kernel_rfl))
 f205:=func187.trans (congrArg T (by kernel_rfl))
 f243:=func48.trans (congrArg T (by kernel_rfl))
 f244:=func172.trans (congrArg T (by kernel_rfl))
 f245:=func173.trans (congrArg T (by kernel_rfl))
 f246:=func92.trans (congrArg T (by kernel_rfl))
 f247:=func176.trans (congrArg T (by kernel_rfl))
 f279:=func177.trans (congrArg T (by kernel_rfl))
 f280:=func178.trans (congrArg T (by kernel_rfl))
 f281:=func179.trans (congrArg T (by kernel_rfl))
 f282:=func180.trans (congrArg T (by kernel_rfl))
 f283:=func127.trans (congrArg T (by kernel_rfl))
 f284:=func128.trans (congrArg T (by kernel_rfl))
 f285:=func129.trans (congrArg T (by kernel_rfl))
 f286:=func130.trans (congrArg T (by kernel_rfl))
 f287:=func185.trans (congrArg T (by kernel_rfl))
 f316:=func186.trans (congrArg T (by kernel_rfl))
 f317:=func153.trans (congrArg T (by kernel_rfl))
 f318:=func155.trans (congrArg T (by kernel_rfl))
 f319:=func156.trans (congrArg T (by kernel_rfl))
 f320:=func157.trans (congrArg T (by kernel_rfl))
 f321:=func189.trans (congrArg T (by kernel_rfl))
 f322:=func190.trans (congrArg T (by kernel_rfl))
 f337:=func167.trans (congrArg T (by kernel_rfl))
 f338:=func168.trans (congrArg T (by kernel_rfl))
 t0:=underlying0
 a0:=isAgg0
 z0:=sizeOf0
 v0:=zeroValue0
 t2:=underlying2
 a2:=isAgg2
 z2:=sizeOf2
 v2:=zeroValue2
 t3:=underlying3
 a3:=isAgg3
 z3:=sizeOf3
 v3:=zeroValue3
 t4:=underlying4
 a4:=isAgg4
 z4:=sizeOf4
 v4:=zeroValue4
 t5:=underlying5
 a5:=isAgg5
 z5:=sizeOf5
 v5:=zeroValue5
 t9:=underlying9
 a9:=isAgg9
 z9:=sizeOf9
 v9:=zeroValue9
 t20:=underlying20
 a20:=isAgg20
 z20:=sizeOf20
 v20:=zeroValue20
 t21:=underlying21
 a21:=isAgg21
 z21:=sizeOf21
 v21:=zeroValue21
 t37:=underlying22
 a37:=isAgg22
 z37:=sizeOf22
 v37:=zeroValue22
 t46:=underlying149
 a46:=isAgg149
 z46:=sizeOf149
 v46:=zeroValue149
 t51:=underlying208
 a51:=isAgg208
 z51:=sizeOf208
 v51:=zeroValue208
 t53:=underlying117
 a53:=isAgg117
 z53:=sizeOf117
 v53:=zeroValue117
 t75:=underlying69
 a75:=isAgg69
 z75:=sizeOf69
 v75:=zeroValue69
 t76:=underlying97
 a76:=isAgg97
 z76:=sizeOf97
 v76:=zeroValue97
 t85:=underlying244
 a85:=isAgg244
 z85:=sizeOf244
 v85:=zeroValue244
 t127:=underlying101
 a127:=isAgg101
 z127:=sizeOf101
 v127:=zeroValue101
 t143:=underlying258
 a143:=isAgg258
 z143:=sizeOf258
 v143:=zeroValue258
 t145:=underlying260
 a145:=isAgg260
 z145:=sizeOf260
 v145:=zeroValue260
 t167:=underlying243
 a167:=isAgg243
 z167:=sizeOf243
 v167:=zeroValue243
 t168:=underlying246
 a168:=isAgg246
 z168:=sizeOf246
 v168:=zeroValue246
 t171:=underlying193
 a171:=isAgg193
 z171:=sizeOf193
 v171:=zeroValue193
 t173:=underlying196
 a173:=isAgg196
 z173:=sizeOf196
 v173:=zeroValue196
 t175:=underlying253
 a175:=isAgg253
 z175:=sizeOf253
 v175:=zeroValue253
 t210:=underlying256
 a210:=isAgg256
 z210:=sizeOf256
 v210:=zeroValue256
 t212:=underlying220
 a212:=isAgg220
 z212:=sizeOf220
 v212:=zeroValue220
 t213:=underlying221
 a213:=isAgg221
 z213:=sizeOf221
 t232:=underlying240
 a232:=isAgg240
 z232:=sizeOf240
 v232:=zeroValue240
 t233:=underlying241
 a233:=isAgg241
 z233:=sizeOf241
 v233:=zeroValue241
 g15:=by kernel_rfl
 g16:=by kernel_rfl
 g17:=by kernel_rfl
 g18:=by kernel_rfl
 g19:=by kernel_rfl
 t80:=underlying65
 a80:=isAgg65
 z80:=sizeOf65
 v80:=zeroValue65
 i0:=by kernel_rfl
 i2:=by kernel_rfl
 i3:=by kernel_rfl
 i4:=by kernel_rfl
 i5:=by kernel_rfl
 i9:=by kernel_rfl
 i20:=by kernel_rfl
 i21:=by kernel_rfl
 i37:=by kernel_rfl
 i46:=by kernel_rfl
 i51:=by kernel_rfl
 i53:=by kernel_rfl
 i75:=by kernel_rfl
 i76:=by kernel_rfl
 i80:=by kernel_rfl
 i85:=by kernel_rfl
 i127:=by kernel_rfl
 i143:=by kernel_rfl
 i145:=by kernel_rfl
 i167:=by kernel_rfl
 i168:=by kernel_rfl
 i171:=by kernel_rfl
 i173:=by kernel_rfl
 i175:=by kernel_rfl
 i210:=by kernel_rfl
 i212:=by kernel_rfl
 i232:=by kernel_rfl
 i233:=by kernel_rfl
 m15:=by kernel_rfl
 m16:=by kernel_rfl
 m17:=by kernel_rfl
 m18:=by kernel_rfl
 m19:=by kernel_rfl
 c0:=by kernel_rfl
 c2:=by kernel_rfl
 c3:=by kernel_rfl
 c4:=by kernel_rfl
 c5:=by kernel_rfl
 c9:=by kernel_rfl
 c20:=by kernel_rfl
 c21:=by kernel_rfl
 c37:=by kernel_rfl
 c46:=by kernel_rfl
 c51:=by kernel_rfl
 c53:=by kernel_rfl
 c75:=by kernel_rfl
 c76:=by kernel_rfl
 c80:=by kernel_rfl
 c85:=by kernel_rfl
 c127:=by kernel_rfl
 c143:=by kernel_rfl
 c145:=by kernel_rfl
 c167:=by kernel_rfl
 c168:=by kernel_rfl
 c171:=by kernel_rfl
 c173:=by kernel_rfl
 c175:=by kernel_rfl
 c210:=by kernel_rfl
 c212:=by kernel_rfl
 c213:=by kernel_rfl
 c232:=by kernel_rfl
 c233:=by kernel_rfl }
open RowKit in
theorem Tryz.strconv_Atoi_ok (s:ByteArray)(b:s.size<=9223372036854775806)(v:Int)(h:Lib.atoiAll s.data.toList=.ok v)(w:M):Calls Pg 160 #[U s] w λe c=>e=ZF (.tuple #[J I v,.nilIface])/\(c=w∨∃t,c=Lib.bytesWorld w 5 t):=Any.strconv_Atoi_ok laysC172 s b v h w
open RowKit in
theorem Tryz.strconv_Atoi_syntax (s:ByteArray)(c:s.size<=281474976710656)(h:Lib.atoiAll s.data.toList=.«syntax»)(b:Value)(w:M)(j:w.cell? (Q 11 0 Y)=T b)(f:b=.nilIface∨∃i l,b=.iface i l):Calls Pg 160 #[U s] w λe g=>∃ZN,e=ZF (.tuple #[J I (0),.iface 246 (.pointer (T (Q ZN 0 Y)))])/\w.heap.size<=ZN/\g.heap[ZN]?=T (.cells #[U ⟨#[65,116,111,105]⟩,U s,b] 256 (0,0))/\Below w.heap.size w g:=Any.strconv_Atoi_syntax laysC172 s c h b w j f
open RowKit in
theorem Tryz.strconv_Atoi_range (s:ByteArray)(c:s.size<=281474976710656)(h:Lib.atoiAll s.data.toList=.range)(b:Value)(w:M)(j:w.cell? (Q 12 0 Y)=T b)(f:b=.nilIface∨∃i l,b=.iface i l):Calls Pg 160 #[U s] w λe g=>∃ZN,e=ZF (.tuple #[J I (Lib.atoiSat s.data.toList),.iface 246 (.pointer (T (Q ZN 0 Y)))])/\w.heap.size<=ZN/\g.heap[ZN]?=T (.cells #[U ⟨#[65,116,111,105]⟩,U s,b] 256 (0,0))/\Below w.heap.size w g:=Any.strconv_Atoi_range laysC172 s c h b w j f
def Tryz.lays219_ren:Go.Shelf.Ren:=⟨λ|219=>159|217=>135|225=>169|224=>170|267=>171|266=>158|314=>175|n=>n,λ|9=>9|3=>3|4=>4|5=>5|46=>149|146=>209|51=>208|n=>n,λ|1=>8|n=>n⟩
theorem lays219:Go.Proofs.Lays.n219 Pg Tryz.lays219_ren:={
 mixed:=by kernel_rfl
 f217:=func135.trans (congrArg T (by kernel_rfl))
 f219:=func159.trans (congrArg T (by kernel_rfl))
 f224:=func170.trans (congrArg T (by kernel_rfl))
 f225:=func169.trans (congrArg T (by kernel_rfl))
 f266:=func158.trans (congrArg T (by kernel_rfl))
 f267:=func171.trans (congrArg T (by kernel_rfl))
 f314:=func175.trans (congrArg T (by kernel_rfl))
 t3:=underlying3
 a3:=isAgg3
 z3:=sizeOf3
 v3:=zeroValue3
 t4:=underlying4
 a4:=isAgg4
 z4:=sizeOf4
 v4:=zeroValue4
 t5:=underlying5
 a5:=isAgg5
 z5:=sizeOf5
 v5:=zeroValue5
 t9:=underlying9
 a9:=isAgg9
 z9:=sizeOf9
 v9:=zeroValue9
 t46:=underlying149
 a46:=isAgg149
 z46:=sizeOf149
 v46:=zeroValue149
 t51:=underlying208
 a51:=isAgg208
 z51:=sizeOf208
 v51:=zeroValue208
 t146:=underlying209
 a146:=isAgg209
 z146:=sizeOf209
 v146:=zeroValue209
 g1:=by kernel_rfl }
open RowKit Go.Lib in
theorem Tryz.stringslite_Index_one (s:ByteArray)(c:UInt8)(w:M):Calls Pg 159 #[U s,U ⟨#[c]⟩] w λe b=>e=ZF (J I (Lib.indexByte s.data.toList c))/\b=w:=Any.stringslite_Index_one lays219 s c w
def Tryz.lays206_ren:Go.Shelf.Ren:=⟨λ|206=>143|n=>n,λ|9=>9|4=>4|3=>3|n=>n,λ|n=>n⟩
def Tryz.lays102_ren:Go.Shelf.Ren:=⟨λ|102=>57|209=>105|207=>140|n=>n,λ|9=>9|4=>4|3=>3|n=>n,λ|n=>n⟩
theorem lays102:Go.Proofs.Lays.n102 Pg Tryz.lays102_ren:={
 mixed:=by kernel_rfl
 f102:=func57.trans (congrArg T (by kernel_rfl))
 f207:=func140.trans (congrArg T (by kernel_rfl))
 f209:=func105.trans (congrArg T (by kernel_rfl))
 t3:=underlying3
 a3:=isAgg3
 z3:=sizeOf3
 v3:=zeroValue3
 t4:=underlying4
 a4:=isAgg4
 z4:=sizeOf4
 v4:=zeroValue4
 t9:=underlying9
 a9:=isAgg9
 z9:=sizeOf9
 v9:=zeroValue9 }
open RowKit Go.Lib in
theorem Tryz.strings_TrimSuffix (s p:ByteArray)(w:M)(b:s.size<=9223372036854775807):Calls Pg 57 #[U s,U p] w λe c=>e=ZF (U ⟨(Lib.trimSuffix s.data.toList p.data.toList).toArray⟩)/\c=w:=Any.strings_TrimSuffix lays102 s p w b
