import Derived.Test.YtcnilonhfpimnaaGreatDoorGQ
import Derived.Shelf.Strings.Trim
import Derived.Shelf.Small.Utf8
import Derived.Shelf.Small.Bits
import Derived.Shelf.Small.Strs
import Derived.Shelf.Strconv.Itoa0
import Derived.Shelf.Strconv.Itoa1
import Derived.Shelf.LaysM
import Derived.Shelf.Strconv.Itoa2
import Derived.Shelf.Strconv.Itoa3
import Derived.Shelf.Strings.Search1
import Derived.Shelf.Sort.Plain
import Derived.Shelf.Unicode.Decode
import Derived.Shelf.Strings.Runes
import Derived.Shelf.Strings.IndexAny
import Derived.Shelf.Strings.AsciiSet
import Derived.Shelf.Strings.IndexAnyAll
import Derived.Shelf.Unicode.DecodeSlow
import Derived.Shelf.Unicode.DecodeAny
import Derived.Ground.Names2Prog
import Derived.Shelf.Slices.Clone
import Derived.Shelf.Slices.In.SortNone
import Derived.Ground.SlgnProg
import Derived.Shelf.SlicesE.Clone
set_option linter.all false
set_option maxRecDepth 100000
set_option maxHeartbeats 8000000
open Go renaming Addr.mk->T,Value.slice->Y,Value.string->U,Value.int->J,Value.bool->ZF,Value.agg->ZJ,Obj.cells->N,IntKind.i64->I,World->E,Ending.returned->ZI,World.heap->A,World.alloc->ZU,World.cell?->ZV,Proofs.Tryz.prog->Pg,Calls->Qw
open Option renaming none->Z,some->Q
open Bool renaming false->ZA,true->ZH
open Array renaming size->B
namespace Go.Proofs
open Go.Shelf
def Tryz.lays161_ren:Go.Shelf.Ren:=⟨λ|161=>204|231=>207|227=>208|233=>209|235=>210|228=>213|197=>218|151=>219|260=>228|152=>211|137=>220|119=>221|224=>222|225=>223|217=>229|266=>232|n=>n,λ|9=>9|4=>4|3=>3|5=>5|117=>285|116=>284|0=>0|124=>288|105=>295|21=>21|119=>303|46=>218|139=>306|138=>305|n=>n,λ|3=>3|4=>4|n=>n⟩
def Tryz.lays161:Go.Proofs.Lays.n161 Pg Tryz.lays161_ren:={
 mixed:=by kernel_rfl
 f119:=Tryz.func221.k (congrArg Q (by kernel_rfl))
 f137:=Tryz.func220.k (congrArg Q (by kernel_rfl))
 f151:=Tryz.func219.k (congrArg Q (by kernel_rfl))
 f152:=Tryz.func211.k (congrArg Q (by kernel_rfl))
 f161:=Tryz.func204.k (congrArg Q (by kernel_rfl))
 f197:=Tryz.func218.k (congrArg Q (by kernel_rfl))
 f217:=Tryz.func229.k (congrArg Q (by kernel_rfl))
 f224:=Tryz.func222.k (congrArg Q (by kernel_rfl))
 f225:=Tryz.func223.k (congrArg Q (by kernel_rfl))
 f227:=Tryz.func208.k (congrArg Q (by kernel_rfl))
 f228:=Tryz.func213.k (congrArg Q (by kernel_rfl))
 f231:=Tryz.func207.k (congrArg Q (by kernel_rfl))
 f233:=Tryz.func209.k (congrArg Q (by kernel_rfl))
 f235:=Tryz.func210.k (congrArg Q (by kernel_rfl))
 f260:=Tryz.func228.k (congrArg Q (by kernel_rfl))
 f266:=Tryz.func232.k (congrArg Q (by kernel_rfl))
 t0:=Tryz.underlying0
 a0:=Tryz.isAgg0
 z0:=Tryz.sizeOf0
 v0:=Tryz.zeroValue0
 t3:=Tryz.underlying3
 a3:=Tryz.isAgg3
 z3:=Tryz.sizeOf3
 v3:=Tryz.zeroValue3
 t4:=Tryz.underlying4
 a4:=Tryz.isAgg4
 z4:=Tryz.sizeOf4
 v4:=Tryz.zeroValue4
 t5:=Tryz.underlying5
 a5:=Tryz.isAgg5
 z5:=Tryz.sizeOf5
 v5:=Tryz.zeroValue5
 t9:=Tryz.underlying9
 a9:=Tryz.isAgg9
 z9:=Tryz.sizeOf9
 v9:=Tryz.zeroValue9
 t21:=Tryz.underlying21
 a21:=Tryz.isAgg21
 z21:=Tryz.sizeOf21
 v21:=Tryz.zeroValue21
 t46:=Tryz.underlying218
 a46:=Tryz.isAgg218
 z46:=Tryz.sizeOf218
 v46:=Tryz.zeroValue218
 t105:=Tryz.underlying295
 a105:=Tryz.isAgg295
 z105:=Tryz.sizeOf295
 v105:=Tryz.zeroValue295
 t116:=Tryz.underlying284
 a116:=Tryz.isAgg284
 z116:=Tryz.sizeOf284
 t117:=Tryz.underlying285
 a117:=Tryz.isAgg285
 z117:=Tryz.sizeOf285
 v117:=Tryz.zeroValue285
 t119:=Tryz.underlying303
 a119:=Tryz.isAgg303
 z119:=Tryz.sizeOf303
 t124:=Tryz.underlying288
 a124:=Tryz.isAgg288
 z124:=Tryz.sizeOf288
 v124:=Tryz.zeroValue288
 t138:=Tryz.underlying305
 a138:=Tryz.isAgg305
 z138:=Tryz.sizeOf305
 v138:=Tryz.zeroValue305
 t139:=Tryz.underlying306
 a139:=Tryz.isAgg306
 z139:=Tryz.sizeOf306
 v139:=Tryz.zeroValue306
 g3:=by kernel_rfl
 g4:=by kernel_rfl }
def Tryz.lays119_ren:Go.Shelf.Ren:=⟨λ|119=>221|n=>n,λ|21=>21|4=>4|n=>n,λ|n=>n⟩
def Tryz.lays119:Go.Proofs.Lays.n119 Pg Tryz.lays119_ren:={
 mixed:=by kernel_rfl
 f119:=Tryz.func221.k (congrArg Q (by kernel_rfl))
 t4:=Tryz.underlying4
 a4:=Tryz.isAgg4
 z4:=Tryz.sizeOf4
 v4:=Tryz.zeroValue4
 t21:=Tryz.underlying21
 a21:=Tryz.isAgg21
 z21:=Tryz.sizeOf21
 v21:=Tryz.zeroValue21 }
def Tryz.utf8_ValidRune (r:Int)(w:E):Qw Pg 221 #[J .i32 r] w λe b=>e=ZI (ZF (Lib.validRune r))/\b=w:=Any.utf8_ValidRune Tryz.lays119 r w
def Tryz.lays213_ren:Go.Shelf.Ren:=⟨λ|213=>157|265=>181|n=>n,λ|9=>9|3=>3|n=>n,λ|n=>n⟩
def Tryz.lays106_ren:Go.Shelf.Ren:=⟨λ|106=>132|213=>157|265=>181|n=>n,λ|9=>9|3=>3|n=>n,λ|n=>n⟩
def Tryz.lays106:Go.Proofs.Lays.n106 Pg Tryz.lays106_ren:={
 mixed:=by kernel_rfl
 f106:=Tryz.func132.k (congrArg Q (by kernel_rfl))
 f213:=Tryz.func157.k (congrArg Q (by kernel_rfl))
 f265:=Tryz.func181.k (congrArg Q (by kernel_rfl))
 t3:=Tryz.underlying3
 a3:=Tryz.isAgg3
 z3:=Tryz.sizeOf3
 v3:=Tryz.zeroValue3
 t9:=Tryz.underlying9
 a9:=Tryz.isAgg9
 z9:=Tryz.sizeOf9
 v9:=Tryz.zeroValue9 }
open RowKit in
def Tryz.strings_Compare (a b:ByteArray)(w:E):Qw Pg 132 #[U a,U b] w λe f=>e=ZI (J I (Lib.compareBytes a.data.toList b.data.toList))/\f=w:=Any.strings_Compare Tryz.lays106 a b w
def Tryz.lays137_ren:Go.Shelf.Ren:=⟨λ|137=>220|217=>229|266=>232|n=>n,λ|9=>9|5=>5|3=>3|n=>n,λ|n=>n⟩
def Tryz.lays137:Go.Proofs.Lays.n137 Pg Tryz.lays137_ren:={
 mixed:=by kernel_rfl
 f137:=Tryz.func220.k (congrArg Q (by kernel_rfl))
 f217:=Tryz.func229.k (congrArg Q (by kernel_rfl))
 f266:=Tryz.func232.k (congrArg Q (by kernel_rfl))
 t3:=Tryz.underlying3
 a3:=Tryz.isAgg3
 z3:=Tryz.sizeOf3
 v3:=Tryz.zeroValue3
 t5:=Tryz.underlying5
 a5:=Tryz.isAgg5
 z5:=Tryz.sizeOf5
 v5:=Tryz.zeroValue5
 t9:=Tryz.underlying9
 a9:=Tryz.isAgg9
 z9:=Tryz.sizeOf9
 v9:=Tryz.zeroValue9 }
open RowKit in
def Tryz.strings_IndexByte (s:ByteArray)(c:Int)(w:E):Qw Pg 220 #[U s,J .u8 c] w λe b=>e=ZI (J I (Lib.indexByte s.data.toList c.toNat.toUInt8))/\b=w:=Any.strings_IndexByte Tryz.lays137 s c w
def Tryz.lays318_ren:Go.Shelf.Ren:=⟨λ|318=>225|n=>n,λ|3=>3|4=>4|n=>n,λ|n=>n⟩
def Tryz.laysM246_ren:Go.Shelf.Ren:=⟨λ|246=>206|283=>214|284=>215|285=>216|286=>217|129=>177|317=>224|318=>225|319=>226|320=>227|337=>230|338=>231|n=>n,λ|2=>2|3=>3|9=>9|4=>4|171=>291|0=>0|53=>258|37=>22|5=>5|173=>293|212=>301|51=>256|20=>20|213=>302|46=>218|232=>307|233=>308|n=>n,λ|17=>2|18=>5|19=>6|n=>n⟩
def Tryz.laysM243_ren:Go.Shelf.Ren:=⟨λ|243=>203|246=>206|283=>214|284=>215|285=>216|286=>217|129=>177|317=>224|318=>225|319=>226|320=>227|337=>230|338=>231|n=>n,λ|3=>3|9=>9|2=>2|4=>4|171=>291|0=>0|53=>258|37=>22|5=>5|173=>293|212=>301|51=>256|20=>20|213=>302|46=>218|232=>307|233=>308|n=>n,λ|17=>2|18=>5|19=>6|n=>n⟩
def Tryz.laysM171_ren:Go.Shelf.Ren:=⟨λ|171=>198|243=>203|246=>206|283=>214|284=>215|285=>216|286=>217|129=>177|317=>224|318=>225|319=>226|320=>227|337=>230|338=>231|n=>n,λ|3=>3|9=>9|2=>2|4=>4|171=>291|0=>0|53=>258|37=>22|5=>5|173=>293|212=>301|51=>256|20=>20|213=>302|46=>218|232=>307|233=>308|n=>n,λ|17=>2|18=>5|19=>6|n=>n⟩
def Tryz.laysM171:Go.Proofs.LaysM.n171 Pg Tryz.laysM171_ren:={
 mixed:=by kernel_rfl
 f129:=Tryz.func177.k (congrArg Q (by kernel_rfl))
 f171:=Tryz.func198.k (congrArg Q (by kernel_rfl))
 f243:=Tryz.func203.k (congrArg Q (by kernel_rfl))
 f246:=Tryz.func206.k (congrArg Q (by kernel_rfl))
 f283:=Tryz.func214.k (congrArg Q (by kernel_rfl))
 f284:=Tryz.func215.k (congrArg Q (by kernel_rfl))
 f285:=Tryz.func216.k (congrArg Q (by kernel_rfl))
 f286:=Tryz.func217.k (congrArg Q (by kernel_rfl))
 f317:=Tryz.func224.k (congrArg Q (by kernel_rfl))
 f318:=Tryz.func225.k (congrArg Q (by kernel_rfl))
 f319:=Tryz.func226.k (congrArg Q (by kernel_rfl))
 f320:=Tryz.func227.k (congrArg Q (by kernel_rfl))
 f337:=Tryz.func230.k (congrArg Q (by kernel_rfl))
 f338:=Tryz.func231.k (congrArg Q (by kernel_rfl))
 t0:=Tryz.underlying0
 a0:=Tryz.isAgg0
 z0:=Tryz.sizeOf0
 v0:=Tryz.zeroValue0
 t2:=Tryz.underlying2
 a2:=Tryz.isAgg2
 z2:=Tryz.sizeOf2
 v2:=Tryz.zeroValue2
 t3:=Tryz.underlying3
 a3:=Tryz.isAgg3
 z3:=Tryz.sizeOf3
 v3:=Tryz.zeroValue3
 t4:=Tryz.underlying4
 a4:=Tryz.isAgg4
 z4:=Tryz.sizeOf4
 v4:=Tryz.zeroValue4
 t5:=Tryz.underlying5
 a5:=Tryz.isAgg5
 z5:=Tryz.sizeOf5
 v5:=Tryz.zeroValue5
 t9:=Tryz.underlying9
 a9:=Tryz.isAgg9
 z9:=Tryz.sizeOf9
 v9:=Tryz.zeroValue9
 t20:=Tryz.underlying20
 a20:=Tryz.isAgg20
 z20:=Tryz.sizeOf20
 v20:=Tryz.zeroValue20
 t37:=Tryz.underlying22
 a37:=Tryz.isAgg22
 z37:=Tryz.sizeOf22
 v37:=Tryz.zeroValue22
 t46:=Tryz.underlying218
 a46:=Tryz.isAgg218
 z46:=Tryz.sizeOf218
 v46:=Tryz.zeroValue218
 t51:=Tryz.underlying256
 a51:=Tryz.isAgg256
 z51:=Tryz.sizeOf256
 v51:=Tryz.zeroValue256
 t53:=Tryz.underlying258
 a53:=Tryz.isAgg258
 z53:=Tryz.sizeOf258
 v53:=Tryz.zeroValue258
 t171:=Tryz.underlying291
 a171:=Tryz.isAgg291
 z171:=Tryz.sizeOf291
 v171:=Tryz.zeroValue291
 t173:=Tryz.underlying293
 a173:=Tryz.isAgg293
 z173:=Tryz.sizeOf293
 v173:=Tryz.zeroValue293
 t212:=Tryz.underlying301
 a212:=Tryz.isAgg301
 z212:=Tryz.sizeOf301
 v212:=Tryz.zeroValue301
 t213:=Tryz.underlying302
 a213:=Tryz.isAgg302
 z213:=Tryz.sizeOf302
 t232:=Tryz.underlying307
 a232:=Tryz.isAgg307
 z232:=Tryz.sizeOf307
 v232:=Tryz.zeroValue307
 t233:=Tryz.underlying308
 a233:=Tryz.isAgg308
 z233:=Tryz.sizeOf308
 v233:=Tryz.zeroValue308
 g17:=by kernel_rfl
 g18:=by kernel_rfl
 g19:=by kernel_rfl
 i0:=by kernel_rfl
 i2:=by kernel_rfl
 i3:=by kernel_rfl
 i4:=by kernel_rfl
 i5:=by kernel_rfl
 i9:=by kernel_rfl
 i20:=by kernel_rfl
 i37:=by kernel_rfl
 i46:=by kernel_rfl
 i51:=by kernel_rfl
 i53:=by kernel_rfl
 i171:=by kernel_rfl
 i173:=by kernel_rfl
 i212:=by kernel_rfl
 i232:=by kernel_rfl
 i233:=by kernel_rfl
 m17:=by kernel_rfl
 m18:=by kernel_rfl
 m19:=by kernel_rfl }
open RowKit Go.Sort Go.Lib in
def Tryz.strconv_Itoa (n:Int)(f:-9223372036854775808<=n)(h1:n<=9223372036854775807)(w:E)(b:Lib.TabIs Pg w "internal/strconv.uint64pow10" .u64 Lib.pow10Tab):Qw Pg 198 #[J I n] w λe g=>e=ZI (U ⟨(Lib.itoa n).toArray⟩)/\∃k os,g=grow (w.drewN k) os:=Any.strconv_Itoa Tryz.laysM171 n f h1 w b
def Tryz.lays152_ren:Go.Shelf.Ren:=⟨λ|152=>211|137=>220|119=>221|224=>222|225=>223|217=>229|266=>232|n=>n,λ|9=>9|21=>21|3=>3|4=>4|5=>5|0=>0|46=>218|n=>n,λ|n=>n⟩
def Tryz.lays152:Go.Proofs.Lays.n152 Pg Tryz.lays152_ren:={
 mixed:=by kernel_rfl
 f119:=Tryz.func221.k (congrArg Q (by kernel_rfl))
 f137:=Tryz.func220.k (congrArg Q (by kernel_rfl))
 f152:=Tryz.func211.k (congrArg Q (by kernel_rfl))
 f217:=Tryz.func229.k (congrArg Q (by kernel_rfl))
 f224:=Tryz.func222.k (congrArg Q (by kernel_rfl))
 f225:=Tryz.func223.k (congrArg Q (by kernel_rfl))
 f266:=Tryz.func232.k (congrArg Q (by kernel_rfl))
 t0:=Tryz.underlying0
 a0:=Tryz.isAgg0
 z0:=Tryz.sizeOf0
 v0:=Tryz.zeroValue0
 t3:=Tryz.underlying3
 a3:=Tryz.isAgg3
 z3:=Tryz.sizeOf3
 v3:=Tryz.zeroValue3
 t4:=Tryz.underlying4
 a4:=Tryz.isAgg4
 z4:=Tryz.sizeOf4
 v4:=Tryz.zeroValue4
 t5:=Tryz.underlying5
 a5:=Tryz.isAgg5
 z5:=Tryz.sizeOf5
 v5:=Tryz.zeroValue5
 t9:=Tryz.underlying9
 a9:=Tryz.isAgg9
 z9:=Tryz.sizeOf9
 v9:=Tryz.zeroValue9
 t21:=Tryz.underlying21
 a21:=Tryz.isAgg21
 z21:=Tryz.sizeOf21
 v21:=Tryz.zeroValue21
 t46:=Tryz.underlying218
 a46:=Tryz.isAgg218
 z46:=Tryz.sizeOf218
 v46:=Tryz.zeroValue218 }
open RowKit Go.Lib in
def Tryz.strings_IndexRune_ascii (s:ByteArray)(r:Int)(w:E)(b:0<=r)(h1:r<128):Qw Pg 211 #[U s,J .i32 r] w λe f=>e=ZI (J I (Lib.indexByte s.data.toList r.toNat.toUInt8))/\f=w:=Any.strings_IndexRune_ascii Tryz.lays152 s r w b h1
def Tryz.lays226_ren:Go.Shelf.Ren:=⟨λ|226=>212|n=>n,λ|3=>3|4=>4|n=>n,λ|n=>n⟩
def Tryz.lays226:Go.Proofs.Lays.n226 Pg Tryz.lays226_ren:={
 mixed:=by kernel_rfl
 f226:=Tryz.func212.k (congrArg Q (by kernel_rfl))
 t3:=Tryz.underlying3
 a3:=Tryz.isAgg3
 z3:=Tryz.sizeOf3
 v3:=Tryz.zeroValue3
 t4:=Tryz.underlying4
 a4:=Tryz.isAgg4
 z4:=Tryz.sizeOf4
 v4:=Tryz.zeroValue4 }
open RowKit Go.Lib in
def Tryz.strings_shouldUseASCIISet (n:Int)(w:E):Qw Pg 212 #[J I n] w λe b=>e=ZI (ZF (decide (8<n)))/\b=w:=Any.strings_shouldUseASCIISet Tryz.lays226 n w
def Tryz.lays153_ren:Go.Shelf.Ren:=⟨λ|153=>205|152=>211|226=>212|227=>208|228=>213|137=>220|119=>221|224=>222|225=>223|217=>229|266=>232|n=>n,λ|9=>9|3=>3|4=>4|5=>5|21=>21|117=>285|116=>284|0=>0|46=>218|124=>288|n=>n,λ|n=>n⟩
def Tryz.lays153:Go.Proofs.Lays.n153 Pg Tryz.lays153_ren:={
 mixed:=by kernel_rfl
 f119:=Tryz.func221.k (congrArg Q (by kernel_rfl))
 f137:=Tryz.func220.k (congrArg Q (by kernel_rfl))
 f152:=Tryz.func211.k (congrArg Q (by kernel_rfl))
 f153:=Tryz.func205.k (congrArg Q (by kernel_rfl))
 f217:=Tryz.func229.k (congrArg Q (by kernel_rfl))
 f224:=Tryz.func222.k (congrArg Q (by kernel_rfl))
 f225:=Tryz.func223.k (congrArg Q (by kernel_rfl))
 f226:=Tryz.func212.k (congrArg Q (by kernel_rfl))
 f227:=Tryz.func208.k (congrArg Q (by kernel_rfl))
 f228:=Tryz.func213.k (congrArg Q (by kernel_rfl))
 f266:=Tryz.func232.k (congrArg Q (by kernel_rfl))
 t0:=Tryz.underlying0
 a0:=Tryz.isAgg0
 z0:=Tryz.sizeOf0
 v0:=Tryz.zeroValue0
 t3:=Tryz.underlying3
 a3:=Tryz.isAgg3
 z3:=Tryz.sizeOf3
 v3:=Tryz.zeroValue3
 t4:=Tryz.underlying4
 a4:=Tryz.isAgg4
 z4:=Tryz.sizeOf4
 v4:=Tryz.zeroValue4
 t5:=Tryz.underlying5
 a5:=Tryz.isAgg5
 z5:=Tryz.sizeOf5
 v5:=Tryz.zeroValue5
 t9:=Tryz.underlying9
 a9:=Tryz.isAgg9
 z9:=Tryz.sizeOf9
 v9:=Tryz.zeroValue9
 t21:=Tryz.underlying21
 a21:=Tryz.isAgg21
 z21:=Tryz.sizeOf21
 v21:=Tryz.zeroValue21
 t46:=Tryz.underlying218
 a46:=Tryz.isAgg218
 z46:=Tryz.sizeOf218
 v46:=Tryz.zeroValue218
 t116:=Tryz.underlying284
 a116:=Tryz.isAgg284
 z116:=Tryz.sizeOf284
 t117:=Tryz.underlying285
 a117:=Tryz.isAgg285
 z117:=Tryz.sizeOf285
 v117:=Tryz.zeroValue285
 t124:=Tryz.underlying288
 a124:=Tryz.isAgg288
 z124:=Tryz.sizeOf288
 v124:=Tryz.zeroValue288 }
open RowKit Go.Lib in
def Tryz.strings_IndexAny_long (h:∀w,(zeroValue 284).run Pg w=.ok (ZJ (Array.replicate 256 (ZF ZA))) w)(s f:ByteArray)(w:E)(h2:2<=f.size)(l:8<s.size)(m:s.size<4294967281)(i:f.size<4294967281)(g:∀(j:Nat) b,f.data.toList[j]?=Q b->b.toNat<128):Qw Pg 205 #[U s,U f] w λe n=>e=ZI (J I (Lib.indexAny s.data.toList f.data.toList))/\n=((w.alloc (N (Lib.setCells f.data.toList) 284)).alloc (N (Lib.setCells f.data.toList) 284)):=Any.strings_IndexAny_long Tryz.lays153 h (by kernel_rfl) s f w h2 l m i g
def Tryz.laysNm216_ren:Go.Shelf.Ren:=⟨λ|16=>150|n=>n,λ|24=>43|9=>9|4=>4|n=>n,λ|n=>n⟩
def Tryz.laysNm216:Go.Proofs.Lays2.n16 Pg Tryz.laysNm216_ren:={
 mixed:=by kernel_rfl
 f16:=Tryz.func150.k (congrArg Q (by kernel_rfl))
 t4:=Tryz.underlying4
 a4:=Tryz.isAgg4
 z4:=Tryz.sizeOf4
 v4:=Tryz.zeroValue4
 t9:=Tryz.underlying9
 a9:=Tryz.isAgg9
 z9:=Tryz.sizeOf9
 v9:=Tryz.zeroValue9
 t24:=Tryz.underlying43
 a24:=Tryz.isAgg43
 z24:=Tryz.sizeOf43
 v24:=Tryz.zeroValue43
 i9:=by kernel_rfl }
open RowKit Go.Lib in
def Tryz.slices_Clone_string (b off n c:Nat)(zs:List ByteArray)(w:E)(hz:n<=zs.length)(f:n*16<=140737488355328)(i:∀j,j<zs.length->ZV w (T b (off+j) Z)=Q (U (zs.getD j ByteArray.empty))):Qw Pg 150 #[Y (Q (T b off Z)) n c] w λe h=>∃g,e=ZI g/\h.ownsRow (B (A w)) 9 1 g n ((zs.take n).map (Value.string))/\g≠.slice Z 0 0/\Below (B (A w)) w h:=Any.slices_Clone_string Tryz.laysNm216 b off n c zs w hz f i
end Go.Proofs
namespace Go.Proofs.YtcnilonhfpimnaaGreatDoor.Vp
open RowKit Go.Sort
def oz:∀a b:List UInt8,decide (Lib.compareBytes a b<0)=Op.bytesLess a b
 |[],[]=>by simp[Lib.compareBytes,Op.bytesLess]
 |[],_::_=>by simp[Lib.compareBytes,Op.bytesLess]
 |_::_,[]=>by simp[Lib.compareBytes,Op.bytesLess]
 |a::x,b::y=>by
  have g:=oz x y;rw[Lib.compareBytes,Op.bytesLess,<-g];by_cases h1:a<b
  ·simp[h1]
  ·rw[eI h1]
   by_cases h2:b<a
   ·have f:¬ a=b:=λe=>by subst e;exact h1 h2
    simp[h1,h2,f]
   ·have f:a=b:=UInt8.le_antisymm (VY.1 h2) (VY.1 h1)
    subst f;simp[h1]
def lS:∀a b:List UInt8,decide (Lib.compareBytes a b=0)=(a == b)
 |[],[]=>by simp[Lib.compareBytes]
 |[],_::_=>by simp[Lib.compareBytes]
 |_::_,[]=>by simp[Lib.compareBytes]
 |a::x,b::y=>by
  have g:=lS x y;rw[Lib.compareBytes];by_cases h1:a<b
  ·have f:¬ a=b:=λe=>by subst e;exact(UInt8.lt_irrefl _ h1)
   simp[h1,f]
  ·rw[eI h1]
   by_cases h2:b<a
   ·have f:¬ a=b:=λe=>by subst e;exact h1 h2
    simp[h2,f]
   ·have f:a=b:=UInt8.le_antisymm (VY.1 h2) (VY.1 h1)
    subst f;rw[eI h2,g];simp
def uD (a b:F_):∃z:Int,Lib.compareBytes a.data.toList b.data.toList=z/\decide (z<0)=aC a b/\decide (z=0)=(a.toList == b.toList):=by
 refine⟨_,rfl,?_,?_⟩;{rw[oz];simp only[aC,NJ]};{rw[lS];simp only[NJ]}
def j9 (nm tx:F_)(t:F_)(w:E):Qw Pg 131 #[ZJ #[U nm,U tx],U t] w λe h=>∃z:Int,e=ZI (J I z)/\decide (z<0)=aC nm t/\decide (z=0)=(nm.toList == t.toList)/\Below (B (A w)) w h:=by have f:=ae ((BS w).alloc ly (N #[U nm,U tx] 82));obtain⟨z,hz,h1,h2⟩:=uD nm t;have i:=ae hz;have b:=ae h1;have g:=ae h2;clear hz h1 h2;go_enter Tryz.func131,Tryz.ntmps131;go_wp2_with fail;refine(Tryz.strings_Compare nm t _).P ?_;rintro e w1⟨rfl,rfl⟩;rw[i.i];go_wp2;go_ret;exact⟨z,rfl,b,g,f⟩
def ke (nm:F_)(a:O_)(k d:Nat)(t:F_)(w:E):Qw Pg 134 #[ZJ #[U nm,Y a k d],U t] w λe h=>∃z:Int,e=ZI (J I z)/\decide (z<0)=aC nm t/\decide (z=0)=(nm.toList == t.toList)/\Below (B (A w)) w h:=by have f:=ae ((BS w).alloc ly (N #[U nm,Y a k d] 86));obtain⟨z,hz,h1,h2⟩:=uD nm t;have i:=ae hz;have b:=ae h1;have g:=ae h2;clear hz h1 h2;go_enter Tryz.func134,Tryz.ntmps134;go_wp2_with fail;refine(Tryz.strings_Compare nm t _).P ?_;rintro e w1⟨rfl,rfl⟩;rw[i.i];go_wp2;go_ret;exact⟨z,rfl,b,g,f⟩
def IJ (s:Bool)(w:E)(b off n:Nat)(g:B_):Prop:=b<B (A w)/\∀i,i<n->ZV w (T b (off+i*2) Z)=Q (U (g i))/\∃u,ZV w (T b (off+i*2+1) Z)=Q u/\if s=ZH then ∃x,u=U x else ∃a k d,u=Y a k d
def Eo (s:Bool)(b off n j_:Nat)(g:B_)(t:F_)(w:E)(hn:(n:Int)<=1048576)(W:IJ s w b off n g)(X:aK g n=ZH):Qw Pg (if s=ZH then 130 else 133) #[Y (Q (T b off Z)) n j_,U t,.func (.func (if s=ZH then 131 else 134)) #[] #[]] w λe w'=>∃i:Nat,e=ZI (.tuple #[J I (i:Int),ZF (aF g n t)])/\i<=n/\(∀m,m<i->aC (g m) t=ZH)/\(∀m,i<=m->m<n->aC (g m) t=ZA)/\Below (B (A w)) w w':=by
 have l:=ae W;have O:=ae X;clear W X;obtain⟨ZS,ZT⟩:∃ZS,ZS=aF g n t:=⟨_,rfl⟩
 rw[<-ZT];have ZP:=ae ZT;clear ZT;cases s
 all_goals simp only[Y2,Bool.false_eq_true,UI]
 focus go_enter Tryz.func133,Tryz.ntmps133
 rotate_left;focus go_enter Tryz.func130,Tryz.ntmps130
 all_goals
  go_wp2;go_loopw [9,10] (λi j wr=>∃p q:Nat,p<=q/\q<=n/\i=J I p/\j=J I q/\Hid (∀m,m<p->aC (g m) t=ZH)/\Hid (∀m,q<=m->m<n->aC (g m) t=ZA)/\Hid (Below (B (A w)) w wr)) (λi j _=>(intOf j).toNat - (intOf i).toNat);case atStart=>exact⟨0,n,by omega,by omega,rfl,rfl,λm P=>absurd P (NE _),λm h1 h2=>by omega,a8 _ _⟩
  case round =>
   obtain⟨p,q,hpq,ZW,rfl,rfl,K,C,f⟩:=hrel;by_cases hlt:p<q
   ·obtain⟨m,P⟩:∃m:Nat,m=(p+q) / 2:=⟨_,rfl⟩
    have R:p<=m:=by omega
    have hm2:m<q:=by omega
    obtain⟨H,u,ZR,G⟩:=l.2 m (by omega);replace H:=(f.O (p:=(T b _ Z)) l.1).k H;replace ZR:=(f.O (p:=(T b _ Z)) l.1).k ZR;have ZL:=lj l.1 f.size;first|obtain⟨x,rfl⟩:=G|obtain⟨x,y,ZO,rfl⟩:=G
    have hsh:((p:Int)+q) / 2=m:=by omega
    clear P;go_wp2_with fail;first|(go_at_call 131;refine(j9 (g m) x t _).P ?_)|(go_at_call 134;refine(ke (g m) x y ZO t _).P ?_)
    rintro e ZM⟨z,rfl,M,_,o⟩;have ZN:=ae M;have h:=ae (f.k (o.P f.size));clear M o;by_cases hz:z<0
    ·have D:Hid (aC (g m) t=ZH):=by show _=_;rw[<-ZN.i];exact QC hz
     go_wp2;refine⟨⟨m+1,q,by omega,ZW,by go_num,rfl,λx S=>?_,C,h⟩,by simp[intOf];omega⟩;by_cases e:x=m
     ·subst e;exact D
     ·exact eY (gZ O (show x<m by omega) (by omega)) D
    ·have D:Hid (aC (g m) t=ZA):=by show _=_;rw[<-ZN.i];exact U8 hz
     go_wp2;refine⟨⟨p,m,R,by omega,rfl,rfl,K,λx h1 h2=>?_,h⟩,by simp[intOf];omega⟩;by_cases e:x=m
     ·subst e;exact D
     ·cases S:aC (g x) t with
      |false=>rfl
      |true =>have:=eY (gZ O (show m<x by omega) h2) S;rw[D.i] at this;cases this
   ·have e:p=q:=by omega
    subst e;have V:=ae (ZP.k (kU O ZW K C));by_cases ZX:p<n
    ·have hlt3:(p:Int)<n:=by omega
     obtain⟨H,u,ZR,G⟩:=l.2 p ZX;replace H:=(f.O (p:=(T b _ Z)) l.1).k H;replace ZR:=(f.O (p:=(T b _ Z)) l.1).k ZR;have ZL:=lj l.1 f.size;first|obtain⟨x,rfl⟩:=G|obtain⟨x,y,ZO,rfl⟩:=G
     go_wp2_with fail;first|(go_at_call 131;refine(j9 (g p) x t _).P ?_)|(go_at_call 134;refine(ke (g p) x y ZO t _).P ?_)
     rintro e ZM⟨z,rfl,_,L,o⟩;have h:=ae (f.k (o.P f.size));have ZQ:Hid (ZS=decide (z=0)):=by show ZS=_;rw[V.i,L];simp[ZX]
     clear L o;by_cases hz:z=0
     ·have r:ZS=ZH:=by rw[ZQ.i];exact QC hz
      subst r;subst hz;go_wp2;exact bp (v:=.tuple #[J I p,ZF ZH]) (by simp[results,XJ,XK,go_sem]) rfl ⟨p,rfl,ZW,K,C,h⟩
     ·have r:ZS=ZA:=by rw[ZQ.i];exact U8 hz
      subst r;have hz':(z == 0)=ZA:=by simpa using hz
      go_wp2;exact bp (v:=.tuple #[J I p,ZF ZA]) (by simp[results,XJ,XK,go_sem]) rfl ⟨p,rfl,ZW,K,C,h⟩
    ·have r:ZS=ZA:=by rw[V.i];simp[ZX]
     subst r;have hge:¬ (p:Int)<n:=by omega
     go_wp2;exact bp (v:=.tuple #[J I p,ZF ZA]) (by simp[results,XJ,XK,go_sem]) rfl ⟨p,rfl,ZW,K,C,f⟩
def Ep (s:Bool)(a:O_)(j_:Nat)(g:B_)(t:F_)(w:E):Qw Pg (if s=ZH then 130 else 133) #[Y a 0 j_,U t,.func (.func (if s=ZH then 131 else 134)) #[] #[]] w λe b=>e=ZI (.tuple #[J I 0,ZF (aF g 0 t)])/\b=w:=by
 rw[iS];cases s
 all_goals simp only[Y2,Bool.false_eq_true,UI]
 focus go_enter Tryz.func133,Tryz.ntmps133
 rotate_left;focus go_enter Tryz.func130,Tryz.ntmps130
 all_goals
  go_wp2;go_loop [9,10] (λi j=>i=J I 0/\j=J I 0) (λ_ _=>0);case atStart=>exact⟨rfl,rfl⟩
  case round =>obtain⟨rfl,rfl⟩:=hrel;go_wp2;exact bp (v:=.tuple #[J I 0,ZF ZA]) (by simp[results,XJ,XK,go_sem]) rfl ⟨rfl,rfl⟩
def uE (s:Bool)(a:O_)(n j_:Nat)(g:B_)(t:F_)(w:E)(hn:(n:Int)<=1048576)(f:n=0\/∃b off,a=Q (T b off Z)/\IJ s w b off n g)(p:aK g n=ZH):Qw Pg (if s=ZH then 130 else 133) #[Y a n j_,U t,.func (.func (if s=ZH then 131 else 134)) #[] #[]] w λe j=>∃i:Nat,e=ZI (.tuple #[J I (i:Int),ZF (aF g n t)])/\i<=n/\(∀m,m<i->aC (g m) t=ZH)/\(∀m,i<=m->m<n->aC (g m) t=ZA)/\Below (B (A w)) w j:=by
 rcases f with rfl|⟨b,off,rfl,f⟩
 {exact(Ep s a j_ _ t w).P λe j ⟨l,o⟩=>⟨0,l,by omega,λm h=>absurd h (NE _),λm _ h=>absurd h (NE _),by rw[o];exact a8 _ _⟩};{exact Eo s b off n j_ g t w hn f p}
def fe (a0:O_)(n0 c0:Nat)(a1:O_)(n1 c1:Nat)(f:Nat->Source)(t:F_)(w:E)(hn:(n0:Int)<=1048576)(l:Qx w a0 n0 f)(p:aK (nm0 f) n0=ZH):Qw Pg 95 #[ZJ #[Y a0 n0 c0,Y a1 n1 c1],U t] w λe u=>∃i:Nat,e=ZI (.tuple #[J I (i:Int),ZF (aF (nm0 f) n0 t)])/\i<=n0/\(∀m,m<i->aC (nm0 f m) t=ZH)/\(∀m,i<=m->m<n0->aC (nm0 f m) t=ZA)/\Below (B (A w)) w u:=by
 have n:=ae ((BS w).alloc ly (N #[Y a0 n0 c0,Y a1 n1 c1] 29));have y:=ae (l.aa n ly);have z:=ae p;clear l p;obtain⟨ZS,g⟩:∃ZS,ZS=aF (nm0 f) n0 t:=⟨_,rfl⟩
 rw[<-g];have q:=ae g;clear g;go_enter Tryz.func95,Tryz.ntmps95;go_wp2_with fail;refine(uE ZH a0 n0 c0 (nm0 f) t _ hn (y.i.imp id λ⟨b,o,e,h⟩=>⟨b,o,e,h.1,λi hi=>⟨(h.2 i hi).1,_,(h.2 i hi).2,_,rfl⟩⟩) z).P ?_;rintro e w1⟨i,rfl,hi,h1,h2,j⟩;rw[<-q.i];have x:=ae h1;have r:=ae h2;have s:=ae (n.k (j.P (by simp)));clear h1 h2 j;go_wp2;exact bp (v:=.tuple #[J I i,ZF ZS]) (by simp[results,Tryz.results95,go_sem]) rfl ⟨i,rfl,hi,x,r,s⟩
def fU (a0:O_)(n0 c0:Nat)(a1:O_)(n1 c1:Nat)(f:Nat->Target)(t:F_)(w:E)(hn:(n1:Int)<=1048576)(n:Qq w a1 n1 f)(j:aK (nm1 f) n1=ZH):Qw Pg 96 #[ZJ #[Y a0 n0 c0,Y a1 n1 c1],U t] w λe r=>∃i:Nat,e=ZI (.tuple #[J I (i:Int),ZF (aF (nm1 f) n1 t)])/\i<=n1/\(∀m,m<i->aC (nm1 f m) t=ZH)/\(∀m,i<=m->m<n1->aC (nm1 f m) t=ZA)/\Below (B (A w)) w r:=by
 have p:=ae ((BS w).alloc ly (N #[Y a0 n0 c0,Y a1 n1 c1] 29));have x:=ae (n.aa p ly);have z:=ae j;clear n j;obtain⟨ZS,g⟩:∃ZS,ZS=aF (nm1 f) n1 t:=⟨_,rfl⟩
 rw[<-g];have ZX:=ae g;clear g;go_enter Tryz.func96,Tryz.ntmps96;go_wp2_with fail
 refine(uE ZA a1 n1 c1 (nm1 f) t _ hn (x.i.imp id λ⟨b,o,e,h⟩=>⟨b,o,e,h.1,λi hi=>by
  obtain⟨y,ka,kc,h1,_⟩:=h.2 i hi
  exact⟨y,_,h1,_,_,_,rfl⟩⟩) z).P ?_
 rintro e w1⟨i,rfl,hi,h1,h2,l⟩;rw[<-ZX.i];have s:=ae h1;have u:=ae h2;have q:=ae (p.k (l.P (by simp)));clear h1 h2 l;go_wp2;exact bp (v:=.tuple #[J I i,ZF ZS]) (by simp[results,Tryz.results96,go_sem]) rfl ⟨i,rfl,hi,s,u,q⟩
def rC (a0:O_)(n0 c0:Nat)(f0:Nat->Source)(a1:O_)(n1 c1:Nat)(f1:Nat->Target)(t:F_)(w:E)(hn0:(n0:Int)<=1048576)(hn1:(n1:Int)<=1048576)(h:Qx w a0 n0 f0)(g:Qq w a1 n1 f1)(n:aK (nm0 f0) n0=ZH)(l:aK (nm1 f1) n1=ZH):Qw Pg 98 #[ZJ #[Y a0 n0 c0,Y a1 n1 c1],U t] w λe C=>e=ZI (ZF (aF (nm0 f0) n0 t || aF (nm1 f1) n1 t))/\Below (B (A w)) w C:=by
 have f:=ae ((BS w).alloc ly (N #[Y a0 n0 c0,Y a1 n1 c1] 29));have u:ZV (ZU w (N #[Y a0 n0 c0,Y a1 n1 c1] 29)) (T (B (A w)) 0 Z)=Q (Y a0 n0 c0):=by simp
 have s:ZV (ZU w (N #[Y a0 n0 c0,Y a1 n1 c1] 29)) (T (B (A w)) 1 Z)=Q (Y a1 n1 c1):=by simp
 have z:=ae (h.aa f ly);have ZX:=ae (g.aa f ly);have H:=ae n;have ZT:=ae l;clear h g n l;obtain⟨ZS,o⟩:∃ZS,ZS=aF (nm0 f0) n0 t:=⟨_,rfl⟩
 obtain⟨ZR,q⟩:∃ZR,ZR=aF (nm1 f1) n1 t:=⟨_,rfl⟩
 rw[<-o,<-q];have y:=ae o;have x:=ae q;clear o q;go_enter Tryz.func98,Tryz.ntmps98;go_wp2_with fail;refine(fe a0 n0 c0 a1 n1 c1 f0 t _ hn0 z H).P ?_;rintro e w1⟨i,rfl,_,_,_,b⟩;have G:=(b.O (p:=(T (B (A w)) 0 Z)) (by simp)).k u;have ZW:=(b.O (p:=(T (B (A w)) 1 Z)) (by simp)).k s;have K:=ae (ZX.aa b ly);have r:=ae (f.k (b.P (by simp)));clear b u s f;rw[<-y.i];go_wp2_with fail;refine(fU a0 n0 c0 a1 n1 c1 f1 t _ hn1 K ZT).P ?_;rintro e w2⟨j,rfl,_,_,_,m⟩;have D:=ae (r.k (m.P r.size));clear m G ZW;rw[<-x.i];clear y x;cases ZS
 all_goals
  go_wp2;go_ret;exact⟨rfl,D⟩
def xg (x:Link)(hb:Nat)(h:O_)(n0 y:Nat)(f0:Nat->Source)(g:O_)(n1 l:Nat)(f1:Nat->Target)(w:E)(t:hb<B (A w))(L:ZV w (T hb 1 Z)=Q (Y h n0 y))(K:ZV w (T hb 2 Z)=Q (Y g n1 l))(hn0:(n0:Int)<=1048576)(hn1:(n1:Int)<=1048576)(z:Qx w h n0 f0)(o:Qq w g n1 f1)(m:aK (nm0 f0) n0=ZH)(s:aK (nm1 f1) n1=ZH):Qw Pg 100 #[ZJ #[U x.e,ZF x.ask,ZF x.has,J I x.G],.pointer (Q (T hb 0 Z))] w λe ZO=>e=ZI (ZF (dY n0 f0 n1 f1 x))/\Below (B (A w)) w ZO:=by
 have b:=ae ((BS w).alloc ly (N #[U x.e,ZF x.ask,ZF x.has,J I x.G] 65));obtain⟨r,G⟩:∃r,r=dY n0 f0 n1 f1 x:=⟨_,rfl⟩
 rw[<-G];have ZW:=ae (show r=(!x.ask && !(x.has == hZ n0 f0 n1 f1 x.e)) from G);have j:=ae (z.aa b.i ly);have i:=ae (o.aa b.i ly);have H:=ae m;have ZS:=ae s;clear G z o m s;cases hq:x.ask with
 |true =>
  obtain rfl:r=ZA:=by rw[ZW.i,hq];rfl
  rw[hq] at b;go_enter Tryz.func100,Tryz.ntmps100;go_wp2_with fail;go_quiet (fail);go_wp2;go_ret;exact⟨rfl,AD b.i _⟩
 |false =>
  have ZX:Hid (r=!(x.has == hZ n0 f0 n1 f1 x.e)):=by show _=_;rw[ZW.i,hq];rfl
  rw[hq] at b j i;obtain⟨c,n⟩:∃c,c=x.has:=⟨_,rfl⟩
  rw[<-n] at b j i ZX ⊢;clear n ZW;have C:=ae (λW (f:Below (B (A (ZU w (N #[U x.e,ZF ZA,ZF c,J I x.G] 65)))) (ZU w (N #[U x.e,ZF ZA,ZF c,J I x.G] 65)) W)=>rC h n0 y f0 g n1 l f1 x.e W hn0 hn1 (j.i.aa f ly) (i.i.aa f ly) H.i ZS.i);have m0:ZV (ZU w (N #[U x.e,ZF ZA,ZF c,J I x.G] 65)) (T (B (A w)) 0 Z)=Q (U x.e):=by simp
  have P:ZV (ZU w (N #[U x.e,ZF ZA,ZF c,J I x.G] 65)) (T (B (A w)) 1 Z)=Q (ZF ZA):=by simp
  have ZT:ZV (ZU w (N #[U x.e,ZF ZA,ZF c,J I x.G] 65)) (T (B (A w)) 2 Z)=Q (ZF c):=by simp
  have M:=(b.i.O (p:=(T hb 1 Z)) t).k L;have O:=(b.i.O (p:=(T hb 2 Z)) t).k K;have hz:B (A w)<B (A (ZU w (N #[U x.e,ZF ZA,ZF c,J I x.G] 65))):=by simp
  have ZQ:hb<B (A (ZU w (N #[U x.e,ZF ZA,ZF c,J I x.G] 65))):=by omega
  have u:Hid (r=!(c == (aF (nm0 f0) n0 x.e || aF (nm1 f1) n1 x.e))):=ZX.i;generalize (aF (nm0 f0) n0 x.e || aF (nm1 f1) n1 x.e)=q at C u;clear j i ZX;go_enter Tryz.func100,Tryz.ntmps100;go_wp2_with fail;generalize World.alloc w _=W at b C m0 P ZT M O hz ZQ ⊢;have K0:=ae (And.intro ZT (And.intro M O))
  go_region_with (first
   |(go_at_call 98;refine(C.i _ ?_).P ?_;(first|exact a8 _ _|exact br.drew);rintro e ZR⟨rfl,f⟩;have D:Hid (Below (B (A W)) W ZR):=⟨f.os,f.tape,f.output,f.size,f.p⟩;have y2:=(D.i.O (p:=(T (B (A w)) 2 Z)) hz).k ZT;have hz1:B (A w)<B (A ZR):=lj hz D.i.size;clear f))
  all_goals
   go_simp;go_wp2;go_ret;exact⟨by simp[u.i],b.i.k (D.i.P b.i.size)⟩
def tN (b off m c:Nat)(h:Nat->Link)(hb:Nat)(o:O_)(n0 ZW:Nat)(f0:Nat->Source)(l:O_)(n1 q:Nat)(f1:Nat->Target)(w:E)(hm:(m:Int)<=1048576)(n:RowLink w b off m h)(g:hb<B (A w))(u:ZV w (T hb 1 Z)=Q (Y o n0 ZW))(y:ZV w (T hb 2 Z)=Q (Y l n1 q))(hn0:(n0:Int)<=1048576)(hn1:(n1:Int)<=1048576)(C:Qx w o n0 f0)(z:Qq w l n1 f1)(s:aK (nm0 f0) n0=ZH)(ZX:aK (nm1 f1) n1=ZH):Qw Pg 135 #[Y (Q (T b off Z)) m c,.func (.func 100) #[] #[.pointer (Q (T hb 0 Z))]] w λe L=>∃r:Int,e=ZI (J I r)/\decide (0<=r)=aM (λk=>dY n0 f0 n1 f1 (h k)) m/\Below (B (A w)) w L:=by
 have H:=ae n;have ZR:=ae (λW (f:Below (B (A w)) w W) x=>xg x hb o n0 ZW f0 l n1 q f1 W (lj g f.size) ((f.O (p:=(T hb 1 Z)) g).k u) ((f.O (p:=(T hb 2 Z)) g).k y) hn0 hn1 (C.aa f ly) (z.aa f ly) s ZX);clear n C z s ZX u y g;go_enter Tryz.func135,Tryz.ntmps135;go_wp2;go_loopw [8] (λi wr=>∃k:Nat,k<=m/\i=J I k/\Hid (aM (λk=>dY n0 f0 n1 f1 (h k)) k=ZA)/\Hid (Below (B (A w)) w wr)) (λi _=>m - (intOf i).toNat);case atStart=>exact⟨0,by omega,rfl,rfl,a8 _ _⟩
 case round =>
  obtain⟨k,hk,rfl,G,j⟩:=hrel;by_cases t:k<m
  ·obtain⟨M,ZS,K,ZQ⟩:=(H.i.aa j.i ly).2 k t;go_wp2_with fail;go_at_call 100;refine(ZR.i _ j.i (h k)).P ?_;rintro e w1⟨rfl,f⟩;have ZT:=ae (j.i.k (f.P j.i.size));clear f M ZS K ZQ;cases hq:dY n0 f0 n1 f1 (h k) with
   |true =>have D:=ae hq;clear hq;go_wp2;go_ret;exact⟨k,rfl,by rw[cS (p:=λk=>dY n0 f0 n1 f1 (h k)) t D.i];simp,ZT.i⟩
   |false =>have D:=ae hq;clear hq;go_wp2;exact⟨⟨k+1,by omega,by go_num,by show aM _ (k+1)=ZA;rw[aM,G.i,D.i];rfl,ZT.i⟩,by simp[intOf];omega⟩
  ·obtain rfl:k=m:=by omega
   go_wp2;go_ret;exact⟨-1,rfl,by rw[G.i];rfl,j.i⟩
def tO (a:O_)(c hb:Nat)(w:E):Qw Pg 135 #[Y a 0 c,.func (.func 100) #[] #[.pointer (Q (T hb 0 Z))]] w λe b=>e=ZI (J I (-1))/\b=w:=by
 go_enter Tryz.func135,Tryz.ntmps135;go_wp2;go_loop [8] (λi=>i=J I 0) (λ_=>0);case atStart=>rfl
 case round =>subst hrel;go_wp2;go_ret;exact⟨rfl,rfl⟩
def tP (a:O_)(m c:Nat)(h:Nat->Link)(hb:Nat)(g:O_)(n0 l:Nat)(f0:Nat->Source)(i:O_)(n1 j:Nat)(f1:Nat->Target)(w:E)(ZX:(m:Int)<=1048576)(f:SlLink w a m h)(y:hb<B (A w))(o:ZV w (T hb 1 Z)=Q (Y g n0 l))(s:ZV w (T hb 2 Z)=Q (Y i n1 j))(hn0:(n0:Int)<=1048576)(hn1:(n1:Int)<=1048576)(z:Qx w g n0 f0)(u:Qq w i n1 f1)(n:aK (nm0 f0) n0=ZH)(x:aK (nm1 f1) n1=ZH):Qw Pg 135 #[Y a m c,.func (.func 100) #[] #[.pointer (Q (T hb 0 Z))]] w λe t=>∃r:Int,e=ZI (J I r)/\decide (0<=r)=aM (λk=>dY n0 f0 n1 f1 (h k)) m/\Below (B (A w)) w t:=by
 rcases f with rfl|⟨b,off,rfl,f⟩
 {exact(tO a c hb w).P λe t ⟨p,q⟩=>⟨-1,p,rfl,by rw[q];exact a8 _ _⟩};{exact tN b off m c h hb g n0 l f0 i n1 j f1 w ZX f y o s hn0 hn1 z u n x}
def pn (a:O_)(m c:Nat)(h:Nat->Link)(hb:Nat)(f:O_)(n0 q:Nat)(f0:Nat->Source)(b:O_)(n1 i:Nat)(f1:Nat->Target)(w:E)(D:(m:Int)<=1048576)(g:SlLink w a m h)(y:hb<B (A w))(l:ZV w (T hb 1 Z)=Q (Y f n0 q))(n:ZV w (T hb 2 Z)=Q (Y b n1 i))(hn0:(n0:Int)<=1048576)(hn1:(n1:Int)<=1048576)(s:Qx w f n0 f0)(o:Qq w b n1 f1)(j:aK (nm0 f0) n0=ZH)(p:aK (nm1 f1) n1=ZH):Qw Pg 99 #[Y a m c,.func (.func 100) #[] #[.pointer (Q (T hb 0 Z))]] w λe C=>e=ZI (ZF (aM (λk=>dY n0 f0 n1 f1 (h k)) m))/\Below (B (A w)) w C:=by
 have x:=ae (tP a m c h hb f n0 q f0 b n1 i f1 w D g y l n hn0 hn1 s o j p);obtain⟨ZX,t⟩:∃ZX,ZX=aM (λk=>dY n0 f0 n1 f1 (h k)) m:=⟨_,rfl⟩
 rw[<-t];rw[<-t] at x;clear t s o j p g l n;go_enter Tryz.func99,Tryz.ntmps99;go_wp2_with fail;refine x.i.P ?_;rintro e w1⟨r,rfl,u,z⟩;have ZT:=ae u;have ZW:=ae z;clear u z;go_wp2;go_ret;exact⟨bv ZT.i,ZW.i⟩
def zn (u j n j_:Nat)(g:O_)(n0 l:Nat)(f0:Nat->Source)(f:O_)(n1 h:Nat)(f1:Nat->Target)(d:au)(a0:O_)(i:Nat)(a1:O_)(b:Nat)(w:E)(hn0:(n0:Int)<=1048576)(hn1:(n1:Int)<=1048576)(s:Qx w g n0 f0)(p:Qq w f n1 f1)(o:aK (nm0 f0) n0=ZH)(q:aK (nm1 f1) n1=ZH)(hL:SlLink w a1 d.f d.m)(hfl:d.f<=1048576):Qw Pg 62 #[ZJ #[Y (Q (T u j Z)) n j_,Y g n0 l,Y f n1 h],ZJ #[U d.e,J I d.L,J I d.M,U d.H,Y a0 d.h i,Y a1 d.f b]] w λe ZW=>e=ZI (ZF (hasB n0 f0 n1 f1 d))/\Below (B (A w)) w ZW:=by
 have m:=ae (((BS w).alloc ly (N #[Y (Q (T u j Z)) n j_,Y g n0 l,Y f n1 h] 107)).alloc (by simp) (N #[U d.e,J I d.L,J I d.M,U d.H,Y a0 d.h i,Y a1 d.f b] 62));have y:=ae (pn a1 d.f b d.m (B (A w)) g n0 l f0 f n1 h f1 _ (by omega) (hL.aa m.i ly) (by simp;omega) (by simp[go_sem]) (by simp[go_sem]) hn0 hn1 (s.aa m.i ly) (p.aa m.i ly) o q);obtain⟨r,t⟩:∃r,r=hasB n0 f0 n1 f1 d:=⟨_,rfl⟩
 rw[<-t];have x:=ae (show aM (λk=>dY n0 f0 n1 f1 (d.m k)) d.f=r from t.c);rw[x.i] at y;clear t s p o q hL x;go_enter Tryz.func62,Tryz.ntmps62;go_wp2_with fail;refine y.i.P ?_;rintro e w1⟨rfl,z⟩;have ZX:=ae (m.i.k (z.P m.i.size));clear z;go_wp2;go_ret;exact⟨rfl,ZX.i⟩
