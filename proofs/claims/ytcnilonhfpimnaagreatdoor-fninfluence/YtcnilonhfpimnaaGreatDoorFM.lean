import Derived.Test.YtcnilonhfpimnaaGreatDoorGQ
import Derived.Shelf.Strings.Trim
import Derived.Shelf.Small.Utf8
import Derived.Shelf.Small.Bits
import Derived.Shelf.Small.Strs
import Derived.Shelf.Strconv.Itoa0
import Derived.Shelf.Strconv.Itoa1
import Derived.Shelf.LaysM
import Derived.Shelf.Strconv.Itoa2
import Derived.Shelf.Strconv.Itoa3
import Derived.Shelf.Strings.Search1
import Derived.Shelf.Sort.Plain
import Derived.Shelf.Unicode.Decode
import Derived.Shelf.Strings.Runes
import Derived.Shelf.Strings.IndexAny
import Derived.Shelf.Strings.AsciiSet
import Derived.Shelf.Strings.IndexAnyAll
import Derived.Shelf.Unicode.DecodeSlow
import Derived.Shelf.Unicode.DecodeAny
import Derived.Ground.Names2Prog
import Derived.Shelf.Slices.Clone
import Derived.Shelf.Slices.In.SortNone
import Derived.Ground.SlgnProg
import Derived.Shelf.SlicesE.Clone
set_option linter.all false
set_option maxRecDepth 100000
set_option maxHeartbeats 8000000
open Go renaming Addr.mk->T,Value.slice->Z,Value.string->U,Value.int->J,Value.bool->ZF,Value.agg->ZJ,Obj.cells->N,IntKind.i64->I,World->E,Ending.returned->ZI,World.heap->A,World.alloc->ZU,World.cell?->ZV,Proofs.Tryz.prog->Pg
open Option renaming none->Y,some->Q
open Bool renaming false->ZA,true->ZH
open Array renaming size->B
namespace Go.Proofs
open Go.Shelf
def Tryz.lays161_ren:Go.Shelf.Ren:=⟨λ|161=>204|231=>207|227=>208|233=>209|235=>210|228=>213|197=>218|151=>219|260=>228|152=>211|137=>220|119=>221|224=>222|225=>223|217=>229|266=>232|n=>n,λ|9=>9|4=>4|3=>3|5=>5|117=>285|116=>284|0=>0|124=>288|105=>295|21=>21|119=>303|46=>218|139=>306|138=>305|n=>n,λ|3=>3|4=>4|n=>n⟩
def Tryz.lays161:Go.Proofs.Lays.n161 Pg Tryz.lays161_ren:={
 mixed:=by kernel_rfl
 f119:=Tryz.func221.k (congrArg Q (by kernel_rfl))
 f137:=Tryz.func220.k (congrArg Q (by kernel_rfl))
 f151:=Tryz.func219.k (congrArg Q (by kernel_rfl))
 f152:=Tryz.func211.k (congrArg Q (by kernel_rfl))
 f161:=Tryz.func204.k (congrArg Q (by kernel_rfl))
 f197:=Tryz.func218.k (congrArg Q (by kernel_rfl))
 f217:=Tryz.func229.k (congrArg Q (by kernel_rfl))
 f224:=Tryz.func222.k (congrArg Q (by kernel_rfl))
 f225:=Tryz.func223.k (congrArg Q (by kernel_rfl))
 f227:=Tryz.func208.k (congrArg Q (by kernel_rfl))
 f228:=Tryz.func213.k (congrArg Q (by kernel_rfl))
 f231:=Tryz.func207.k (congrArg Q (by kernel_rfl))
 f233:=Tryz.func209.k (congrArg Q (by kernel_rfl))
 f235:=Tryz.func210.k (congrArg Q (by kernel_rfl))
 f260:=Tryz.func228.k (congrArg Q (by kernel_rfl))
 f266:=Tryz.func232.k (congrArg Q (by kernel_rfl))
 t0:=Tryz.underlying0
 a0:=Tryz.isAgg0
 z0:=Tryz.sizeOf0
 v0:=Tryz.zeroValue0
 t3:=Tryz.underlying3
 a3:=Tryz.isAgg3
 z3:=Tryz.sizeOf3
 v3:=Tryz.zeroValue3
 t4:=Tryz.underlying4
 a4:=Tryz.isAgg4
 z4:=Tryz.sizeOf4
 v4:=Tryz.zeroValue4
 t5:=Tryz.underlying5
 a5:=Tryz.isAgg5
 z5:=Tryz.sizeOf5
 v5:=Tryz.zeroValue5
 t9:=Tryz.underlying9
 a9:=Tryz.isAgg9
 z9:=Tryz.sizeOf9
 v9:=Tryz.zeroValue9
 t21:=Tryz.underlying21
 a21:=Tryz.isAgg21
 z21:=Tryz.sizeOf21
 v21:=Tryz.zeroValue21
 t46:=Tryz.underlying218
 a46:=Tryz.isAgg218
 z46:=Tryz.sizeOf218
 v46:=Tryz.zeroValue218
 t105:=Tryz.underlying295
 a105:=Tryz.isAgg295
 z105:=Tryz.sizeOf295
 v105:=Tryz.zeroValue295
 t116:=Tryz.underlying284
 a116:=Tryz.isAgg284
 z116:=Tryz.sizeOf284
 t117:=Tryz.underlying285
 a117:=Tryz.isAgg285
 z117:=Tryz.sizeOf285
 v117:=Tryz.zeroValue285
 t119:=Tryz.underlying303
 a119:=Tryz.isAgg303
 z119:=Tryz.sizeOf303
 t124:=Tryz.underlying288
 a124:=Tryz.isAgg288
 z124:=Tryz.sizeOf288
 v124:=Tryz.zeroValue288
 t138:=Tryz.underlying305
 a138:=Tryz.isAgg305
 z138:=Tryz.sizeOf305
 v138:=Tryz.zeroValue305
 t139:=Tryz.underlying306
 a139:=Tryz.isAgg306
 z139:=Tryz.sizeOf306
 v139:=Tryz.zeroValue306
 g3:=by kernel_rfl
 g4:=by kernel_rfl }
def Tryz.lays119_ren:Go.Shelf.Ren:=⟨λ|119=>221|n=>n,λ|21=>21|4=>4|n=>n,λ|n=>n⟩
def Tryz.lays119:Go.Proofs.Lays.n119 Pg Tryz.lays119_ren:={
 mixed:=by kernel_rfl
 f119:=Tryz.func221.k (congrArg Q (by kernel_rfl))
 t4:=Tryz.underlying4
 a4:=Tryz.isAgg4
 z4:=Tryz.sizeOf4
 v4:=Tryz.zeroValue4
 t21:=Tryz.underlying21
 a21:=Tryz.isAgg21
 z21:=Tryz.sizeOf21
 v21:=Tryz.zeroValue21 }
def Tryz.utf8_ValidRune (r:Int)(w:E):Calls Pg 221 #[J .i32 r] w λe b=>e=ZI (ZF (Lib.validRune r))/\b=w:=Any.utf8_ValidRune Tryz.lays119 r w
def Tryz.lays213_ren:Go.Shelf.Ren:=⟨λ|213=>157|265=>181|n=>n,λ|9=>9|3=>3|n=>n,λ|n=>n⟩
def Tryz.lays106_ren:Go.Shelf.Ren:=⟨λ|106=>132|213=>157|265=>181|n=>n,λ|9=>9|3=>3|n=>n,λ|n=>n⟩
def Tryz.lays106:Go.Proofs.Lays.n106 Pg Tryz.lays106_ren:={
 mixed:=by kernel_rfl
 f106:=Tryz.func132.k (congrArg Q (by kernel_rfl))
 f213:=Tryz.func157.k (congrArg Q (by kernel_rfl))
 f265:=Tryz.func181.k (congrArg Q (by kernel_rfl))
 t3:=Tryz.underlying3
 a3:=Tryz.isAgg3
 z3:=Tryz.sizeOf3
 v3:=Tryz.zeroValue3
 t9:=Tryz.underlying9
 a9:=Tryz.isAgg9
 z9:=Tryz.sizeOf9
 v9:=Tryz.zeroValue9 }
open RowKit in
def Tryz.strings_Compare (a b:ByteArray)(w:E):Calls Pg 132 #[U a,U b] w λe f=>e=ZI (J I (Lib.compareBytes a.data.toList b.data.toList))/\f=w:=Any.strings_Compare Tryz.lays106 a b w
def Tryz.lays137_ren:Go.Shelf.Ren:=⟨λ|137=>220|217=>229|266=>232|n=>n,λ|9=>9|5=>5|3=>3|n=>n,λ|n=>n⟩
def Tryz.lays137:Go.Proofs.Lays.n137 Pg Tryz.lays137_ren:={
 mixed:=by kernel_rfl
 f137:=Tryz.func220.k (congrArg Q (by kernel_rfl))
 f217:=Tryz.func229.k (congrArg Q (by kernel_rfl))
 f266:=Tryz.func232.k (congrArg Q (by kernel_rfl))
 t3:=Tryz.underlying3
 a3:=Tryz.isAgg3
 z3:=Tryz.sizeOf3
 v3:=Tryz.zeroValue3
 t5:=Tryz.underlying5
 a5:=Tryz.isAgg5
 z5:=Tryz.sizeOf5
 v5:=Tryz.zeroValue5
 t9:=Tryz.underlying9
 a9:=Tryz.isAgg9
 z9:=Tryz.sizeOf9
 v9:=Tryz.zeroValue9 }
open RowKit in
def Tryz.strings_IndexByte (s:ByteArray)(c:Int)(w:E):Calls Pg 220 #[U s,J .u8 c] w λe b=>e=ZI (J I (Lib.indexByte s.data.toList c.toNat.toUInt8))/\b=w:=Any.strings_IndexByte Tryz.lays137 s c w
def Tryz.lays318_ren:Go.Shelf.Ren:=⟨λ|318=>225|n=>n,λ|3=>3|4=>4|n=>n,λ|n=>n⟩
def Tryz.laysM246_ren:Go.Shelf.Ren:=⟨λ|246=>206|283=>214|284=>215|285=>216|286=>217|129=>177|317=>224|318=>225|319=>226|320=>227|337=>230|338=>231|n=>n,λ|2=>2|3=>3|9=>9|4=>4|171=>291|0=>0|53=>258|37=>22|5=>5|173=>293|212=>301|51=>256|20=>20|213=>302|46=>218|232=>307|233=>308|n=>n,λ|17=>2|18=>5|19=>6|n=>n⟩
def Tryz.laysM243_ren:Go.Shelf.Ren:=⟨λ|243=>203|246=>206|283=>214|284=>215|285=>216|286=>217|129=>177|317=>224|318=>225|319=>226|320=>227|337=>230|338=>231|n=>n,λ|3=>3|9=>9|2=>2|4=>4|171=>291|0=>0|53=>258|37=>22|5=>5|173=>293|212=>301|51=>256|20=>20|213=>302|46=>218|232=>307|233=>308|n=>n,λ|17=>2|18=>5|19=>6|n=>n⟩
def Tryz.laysM171_ren:Go.Shelf.Ren:=⟨λ|171=>198|243=>203|246=>206|283=>214|284=>215|285=>216|286=>217|129=>177|317=>224|318=>225|319=>226|320=>227|337=>230|338=>231|n=>n,λ|3=>3|9=>9|2=>2|4=>4|171=>291|0=>0|53=>258|37=>22|5=>5|173=>293|212=>301|51=>256|20=>20|213=>302|46=>218|232=>307|233=>308|n=>n,λ|17=>2|18=>5|19=>6|n=>n⟩
def Tryz.laysM171:Go.Proofs.LaysM.n171 Pg Tryz.laysM171_ren:={
 mixed:=by kernel_rfl
 f129:=Tryz.func177.k (congrArg Q (by kernel_rfl))
 f171:=Tryz.func198.k (congrArg Q (by kernel_rfl))
 f243:=Tryz.func203.k (congrArg Q (by kernel_rfl))
 f246:=Tryz.func206.k (congrArg Q (by kernel_rfl))
 f283:=Tryz.func214.k (congrArg Q (by kernel_rfl))
 f284:=Tryz.func215.k (congrArg Q (by kernel_rfl))
 f285:=Tryz.func216.k (congrArg Q (by kernel_rfl))
 f286:=Tryz.func217.k (congrArg Q (by kernel_rfl))
 f317:=Tryz.func224.k (congrArg Q (by kernel_rfl))
 f318:=Tryz.func225.k (congrArg Q (by kernel_rfl))
 f319:=Tryz.func226.k (congrArg Q (by kernel_rfl))
 f320:=Tryz.func227.k (congrArg Q (by kernel_rfl))
 f337:=Tryz.func230.k (congrArg Q (by kernel_rfl))
 f338:=Tryz.func231.k (congrArg Q (by kernel_rfl))
 t0:=Tryz.underlying0
 a0:=Tryz.isAgg0
 z0:=Tryz.sizeOf0
 v0:=Tryz.zeroValue0
 t2:=Tryz.underlying2
 a2:=Tryz.isAgg2
 z2:=Tryz.sizeOf2
 v2:=Tryz.zeroValue2
 t3:=Tryz.underlying3
 a3:=Tryz.isAgg3
 z3:=Tryz.sizeOf3
 v3:=Tryz.zeroValue3
 t4:=Tryz.underlying4
 a4:=Tryz.isAgg4
 z4:=Tryz.sizeOf4
 v4:=Tryz.zeroValue4
 t5:=Tryz.underlying5
 a5:=Tryz.isAgg5
 z5:=Tryz.sizeOf5
 v5:=Tryz.zeroValue5
 t9:=Tryz.underlying9
 a9:=Tryz.isAgg9
 z9:=Tryz.sizeOf9
 v9:=Tryz.zeroValue9
 t20:=Tryz.underlying20
 a20:=Tryz.isAgg20
 z20:=Tryz.sizeOf20
 v20:=Tryz.zeroValue20
 t37:=Tryz.underlying22
 a37:=Tryz.isAgg22
 z37:=Tryz.sizeOf22
 v37:=Tryz.zeroValue22
 t46:=Tryz.underlying218
 a46:=Tryz.isAgg218
 z46:=Tryz.sizeOf218
 v46:=Tryz.zeroValue218
 t51:=Tryz.underlying256
 a51:=Tryz.isAgg256
 z51:=Tryz.sizeOf256
 v51:=Tryz.zeroValue256
 t53:=Tryz.underlying258
 a53:=Tryz.isAgg258
 z53:=Tryz.sizeOf258
 v53:=Tryz.zeroValue258
 t171:=Tryz.underlying291
 a171:=Tryz.isAgg291
 z171:=Tryz.sizeOf291
 v171:=Tryz.zeroValue291
 t173:=Tryz.underlying293
 a173:=Tryz.isAgg293
 z173:=Tryz.sizeOf293
 v173:=Tryz.zeroValue293
 t212:=Tryz.underlying301
 a212:=Tryz.isAgg301
 z212:=Tryz.sizeOf301
 v212:=Tryz.zeroValue301
 t213:=Tryz.underlying302
 a213:=Tryz.isAgg302
 z213:=Tryz.sizeOf302
 t232:=Tryz.underlying307
 a232:=Tryz.isAgg307
 z232:=Tryz.sizeOf307
 v232:=Tryz.zeroValue307
 t233:=Tryz.underlying308
 a233:=Tryz.isAgg308
 z233:=Tryz.sizeOf308
 v233:=Tryz.zeroValue308
 g17:=by kernel_rfl
 g18:=by kernel_rfl
 g19:=by kernel_rfl
 i0:=by kernel_rfl
 i2:=by kernel_rfl
 i3:=by kernel_rfl
 i4:=by kernel_rfl
 i5:=by kernel_rfl
 i9:=by kernel_rfl
 i20:=by kernel_rfl
 i37:=by kernel_rfl
 i46:=by kernel_rfl
 i51:=by kernel_rfl
 i53:=by kernel_rfl
 i171:=by kernel_rfl
 i173:=by kernel_rfl
 i212:=by kernel_rfl
 i232:=by kernel_rfl
 i233:=by kernel_rfl
 m17:=by kernel_rfl
 m18:=by kernel_rfl
 m19:=by kernel_rfl }
open RowKit Go.Sort Go.Lib in
def Tryz.strconv_Itoa (n:Int)(f:-9223372036854775808<=n)(h1:n<=9223372036854775807)(w:E)(b:Lib.TabIs Pg w "internal/strconv.uint64pow10" .u64 Lib.pow10Tab):Calls Pg 198 #[J I n] w λe g=>e=ZI (U ⟨(Lib.itoa n).toArray⟩)/\∃k os,g=grow (w.drewN k) os:=Any.strconv_Itoa Tryz.laysM171 n f h1 w b
def Tryz.lays152_ren:Go.Shelf.Ren:=⟨λ|152=>211|137=>220|119=>221|224=>222|225=>223|217=>229|266=>232|n=>n,λ|9=>9|21=>21|3=>3|4=>4|5=>5|0=>0|46=>218|n=>n,λ|n=>n⟩
def Tryz.lays152:Go.Proofs.Lays.n152 Pg Tryz.lays152_ren:={
 mixed:=by kernel_rfl
 f119:=Tryz.func221.k (congrArg Q (by kernel_rfl))
 f137:=Tryz.func220.k (congrArg Q (by kernel_rfl))
 f152:=Tryz.func211.k (congrArg Q (by kernel_rfl))
 f217:=Tryz.func229.k (congrArg Q (by kernel_rfl))
 f224:=Tryz.func222.k (congrArg Q (by kernel_rfl))
 f225:=Tryz.func223.k (congrArg Q (by kernel_rfl))
 f266:=Tryz.func232.k (congrArg Q (by kernel_rfl))
 t0:=Tryz.underlying0
 a0:=Tryz.isAgg0
 z0:=Tryz.sizeOf0
 v0:=Tryz.zeroValue0
 t3:=Tryz.underlying3
 a3:=Tryz.isAgg3
 z3:=Tryz.sizeOf3
 v3:=Tryz.zeroValue3
 t4:=Tryz.underlying4
 a4:=Tryz.isAgg4
 z4:=Tryz.sizeOf4
 v4:=Tryz.zeroValue4
 t5:=Tryz.underlying5
 a5:=Tryz.isAgg5
 z5:=Tryz.sizeOf5
 v5:=Tryz.zeroValue5
 t9:=Tryz.underlying9
 a9:=Tryz.isAgg9
 z9:=Tryz.sizeOf9
 v9:=Tryz.zeroValue9
 t21:=Tryz.underlying21
 a21:=Tryz.isAgg21
 z21:=Tryz.sizeOf21
 v21:=Tryz.zeroValue21
 t46:=Tryz.underlying218
 a46:=Tryz.isAgg218
 z46:=Tryz.sizeOf218
 v46:=Tryz.zeroValue218 }
open RowKit Go.Lib in
def Tryz.strings_IndexRune_ascii (s:ByteArray)(r:Int)(w:E)(f:0<=r)(h1:r<128):Calls Pg 211 #[U s,J .i32 r] w λe b=>e=ZI (J I (Lib.indexByte s.data.toList r.toNat.toUInt8))/\b=w:=Any.strings_IndexRune_ascii Tryz.lays152 s r w f h1
def Tryz.lays226_ren:Go.Shelf.Ren:=⟨λ|226=>212|n=>n,λ|3=>3|4=>4|n=>n,λ|n=>n⟩
def Tryz.lays226:Go.Proofs.Lays.n226 Pg Tryz.lays226_ren:={
 mixed:=by kernel_rfl
 f226:=Tryz.func212.k (congrArg Q (by kernel_rfl))
 t3:=Tryz.underlying3
 a3:=Tryz.isAgg3
 z3:=Tryz.sizeOf3
 v3:=Tryz.zeroValue3
 t4:=Tryz.underlying4
 a4:=Tryz.isAgg4
 z4:=Tryz.sizeOf4
 v4:=Tryz.zeroValue4 }
open RowKit Go.Lib in
def Tryz.strings_shouldUseASCIISet (n:Int)(w:E):Calls Pg 212 #[J I n] w λe b=>e=ZI (ZF (decide (8<n)))/\b=w:=Any.strings_shouldUseASCIISet Tryz.lays226 n w
def Tryz.lays153_ren:Go.Shelf.Ren:=⟨λ|153=>205|152=>211|226=>212|227=>208|228=>213|137=>220|119=>221|224=>222|225=>223|217=>229|266=>232|n=>n,λ|9=>9|3=>3|4=>4|5=>5|21=>21|117=>285|116=>284|0=>0|46=>218|124=>288|n=>n,λ|n=>n⟩
def Tryz.lays153:Go.Proofs.Lays.n153 Pg Tryz.lays153_ren:={
 mixed:=by kernel_rfl
 f119:=Tryz.func221.k (congrArg Q (by kernel_rfl))
 f137:=Tryz.func220.k (congrArg Q (by kernel_rfl))
 f152:=Tryz.func211.k (congrArg Q (by kernel_rfl))
 f153:=Tryz.func205.k (congrArg Q (by kernel_rfl))
 f217:=Tryz.func229.k (congrArg Q (by kernel_rfl))
 f224:=Tryz.func222.k (congrArg Q (by kernel_rfl))
 f225:=Tryz.func223.k (congrArg Q (by kernel_rfl))
 f226:=Tryz.func212.k (congrArg Q (by kernel_rfl))
 f227:=Tryz.func208.k (congrArg Q (by kernel_rfl))
 f228:=Tryz.func213.k (congrArg Q (by kernel_rfl))
 f266:=Tryz.func232.k (congrArg Q (by kernel_rfl))
 t0:=Tryz.underlying0
 a0:=Tryz.isAgg0
 z0:=Tryz.sizeOf0
 v0:=Tryz.zeroValue0
 t3:=Tryz.underlying3
 a3:=Tryz.isAgg3
 z3:=Tryz.sizeOf3
 v3:=Tryz.zeroValue3
 t4:=Tryz.underlying4
 a4:=Tryz.isAgg4
 z4:=Tryz.sizeOf4
 v4:=Tryz.zeroValue4
 t5:=Tryz.underlying5
 a5:=Tryz.isAgg5
 z5:=Tryz.sizeOf5
 v5:=Tryz.zeroValue5
 t9:=Tryz.underlying9
 a9:=Tryz.isAgg9
 z9:=Tryz.sizeOf9
 v9:=Tryz.zeroValue9
 t21:=Tryz.underlying21
 a21:=Tryz.isAgg21
 z21:=Tryz.sizeOf21
 v21:=Tryz.zeroValue21
 t46:=Tryz.underlying218
 a46:=Tryz.isAgg218
 z46:=Tryz.sizeOf218
 v46:=Tryz.zeroValue218
 t116:=Tryz.underlying284
 a116:=Tryz.isAgg284
 z116:=Tryz.sizeOf284
 t117:=Tryz.underlying285
 a117:=Tryz.isAgg285
 z117:=Tryz.sizeOf285
 v117:=Tryz.zeroValue285
 t124:=Tryz.underlying288
 a124:=Tryz.isAgg288
 z124:=Tryz.sizeOf288
 v124:=Tryz.zeroValue288 }
open RowKit Go.Lib in
def Tryz.strings_IndexAny_long (h:∀w,(zeroValue 284).run Pg w=.ok (ZJ (Array.replicate 256 (ZF ZA))) w)(s f:ByteArray)(w:E)(h2:2<=f.size)(m:8<s.size)(n:s.size<4294967281)(i:f.size<4294967281)(g:∀(j:Nat) b,f.data.toList[j]?=Q b->b.toNat<128):Calls Pg 205 #[U s,U f] w λe l=>e=ZI (J I (Lib.indexAny s.data.toList f.data.toList))/\l=((w.alloc (N (Lib.setCells f.data.toList) 284)).alloc (N (Lib.setCells f.data.toList) 284)):=Any.strings_IndexAny_long Tryz.lays153 h (by kernel_rfl) s f w h2 m n i g
def Tryz.laysNm216_ren:Go.Shelf.Ren:=⟨λ|16=>150|n=>n,λ|24=>43|9=>9|4=>4|n=>n,λ|n=>n⟩
def Tryz.laysNm216:Go.Proofs.Lays2.n16 Pg Tryz.laysNm216_ren:={
 mixed:=by kernel_rfl
 f16:=Tryz.func150.k (congrArg Q (by kernel_rfl))
 t4:=Tryz.underlying4
 a4:=Tryz.isAgg4
 z4:=Tryz.sizeOf4
 v4:=Tryz.zeroValue4
 t9:=Tryz.underlying9
 a9:=Tryz.isAgg9
 z9:=Tryz.sizeOf9
 v9:=Tryz.zeroValue9
 t24:=Tryz.underlying43
 a24:=Tryz.isAgg43
 z24:=Tryz.sizeOf43
 v24:=Tryz.zeroValue43
 i9:=by kernel_rfl }
open RowKit Go.Lib in
def Tryz.slices_Clone_string (b off n c:Nat)(zs:List ByteArray)(w:E)(hz:n<=zs.length)(f:n*16<=140737488355328)(i:∀j,j<zs.length->ZV w (T b (off+j) Y)=Q (U (zs.getD j ByteArray.empty))):Calls Pg 150 #[Z (Q (T b off Y)) n c] w λe h=>∃g,e=ZI g/\h.ownsRow (B (A w)) 9 1 g n ((zs.take n).map (Value.string))/\g≠.slice Y 0 0/\Below (B (A w)) w h:=Any.slices_Clone_string Tryz.laysNm216 b off n c zs w hz f i
end Go.Proofs
namespace Go.Proofs.YtcnilonhfpimnaaGreatDoor.Vp
open RowKit Go.Sort
def oz:∀a b:List UInt8,decide (Lib.compareBytes a b<0)=Op.bytesLess a b
 |[],[]=>by simp[Lib.compareBytes,Op.bytesLess]
 |[],_::_=>by simp[Lib.compareBytes,Op.bytesLess]
 |_::_,[]=>by simp[Lib.compareBytes,Op.bytesLess]
 |a::x,b::y=>by
  have g:=oz x y;rw[Lib.compareBytes,Op.bytesLess,<-g];by_cases h1:a<b
  ·simp[h1]
  ·rw[eI h1]
   by_cases h2:b<a
   ·have f:¬ a=b:=λe=>by subst e;exact h1 h2
    simp[h1,h2,f]
   ·have f:a=b:=UInt8.le_antisymm (VY.1 h2) (VY.1 h1)
    subst f;simp[h1]
def lS:∀a b:List UInt8,decide (Lib.compareBytes a b=0)=(a == b)
 |[],[]=>by simp[Lib.compareBytes]
 |[],_::_=>by simp[Lib.compareBytes]
 |_::_,[]=>by simp[Lib.compareBytes]
 |a::x,b::y=>by
  have g:=lS x y;rw[Lib.compareBytes];by_cases h1:a<b
  ·have f:¬ a=b:=λe=>by subst e;exact(UInt8.lt_irrefl _ h1)
   simp[h1,f]
  ·rw[eI h1]
   by_cases h2:b<a
   ·have f:¬ a=b:=λe=>by subst e;exact h1 h2
    simp[h2,f]
   ·have f:a=b:=UInt8.le_antisymm (VY.1 h2) (VY.1 h1)
    subst f;rw[eI h2,g];simp
def uD (a b:F_):∃z:Int,Lib.compareBytes a.data.toList b.data.toList=z/\decide (z<0)=aC a b/\decide (z=0)=(a.toList == b.toList):=by
 refine⟨_,rfl,?_,?_⟩;{rw[oz];simp only[aC,NM]};{rw[lS];simp only[NM]}
def j9 (nm tx:F_)(t:F_)(w:E):Calls Pg 131 #[ZJ #[U nm,U tx],U t] w λe i=>∃z:Int,e=ZI (J I z)/\decide (z<0)=aC nm t/\decide (z=0)=(nm.toList == t.toList)/\Below (B (A w)) w i:=by have g:=ae ((BS w).alloc ly (N #[U nm,U tx] 82));obtain⟨z,hz,h1,h2⟩:=uD nm t;have f:=ae hz;have b:=ae h1;have h:=ae h2;clear hz h1 h2;go_enter Tryz.func131,Tryz.ntmps131;go_wp2_with fail;refine(Tryz.strings_Compare nm t _).P ?_;rintro e w1⟨rfl,rfl⟩;rw[f.i];go_wp2;go_ret;exact⟨z,rfl,b,h,g⟩
def ke (nm:F_)(a:O_)(k d:Nat)(t:F_)(w:E):Calls Pg 134 #[ZJ #[U nm,Z a k d],U t] w λe i=>∃z:Int,e=ZI (J I z)/\decide (z<0)=aC nm t/\decide (z=0)=(nm.toList == t.toList)/\Below (B (A w)) w i:=by have g:=ae ((BS w).alloc ly (N #[U nm,Z a k d] 86));obtain⟨z,hz,h1,h2⟩:=uD nm t;have f:=ae hz;have b:=ae h1;have h:=ae h2;clear hz h1 h2;go_enter Tryz.func134,Tryz.ntmps134;go_wp2_with fail;refine(Tryz.strings_Compare nm t _).P ?_;rintro e w1⟨rfl,rfl⟩;rw[f.i];go_wp2;go_ret;exact⟨z,rfl,b,h,g⟩
def IJ (s:Bool)(w:E)(b off n:Nat)(g:B_):Prop:=b<B (A w)/\∀i,i<n->ZV w (T b (off+i*2) Y)=Q (U (g i))/\∃u,ZV w (T b (off+i*2+1) Y)=Q u/\if s=ZH then ∃x,u=U x else ∃a k d,u=Z a k d
def Eo (s:Bool)(b off n j_:Nat)(g:B_)(t:F_)(w:E)(hn:(n:Int)<=1048576)(ZN:IJ s w b off n g)(S:aK g n=ZH):Calls Pg (if s=ZH then 130 else 133) #[Z (Q (T b off Y)) n j_,U t,.func (.func (if s=ZH then 131 else 134)) #[] #[]] w λe ZM=>∃i:Nat,e=ZI (.tuple #[J I (i:Int),ZF (aF g n t)])/\i<=n/\(∀m,m<i->aC (g m) t=ZH)/\(∀m,i<=m->m<n->aC (g m) t=ZA)/\Below (B (A w)) w ZM:=by
 have l:=ae ZN;have ZO:=ae S;clear ZN S;obtain⟨ZS,ZR⟩:∃ZS,ZS=aF g n t:=⟨_,rfl⟩
 rw[<-ZR];have X:=ae ZR;clear ZR;cases s
 all_goals simp only[Y2,Bool.false_eq_true,UI]
 focus go_enter Tryz.func133,Tryz.ntmps133
 rotate_left;focus go_enter Tryz.func130,Tryz.ntmps130
 all_goals
  go_wp2;go_loopw [9,10] (λi j wr=>∃p q:Nat,p<=q/\q<=n/\i=J I p/\j=J I q/\Hid (∀m,m<p->aC (g m) t=ZH)/\Hid (∀m,q<=m->m<n->aC (g m) t=ZA)/\Hid (Below (B (A w)) w wr)) (λi j _=>(intOf j).toNat - (intOf i).toNat);case atStart=>exact⟨0,n,by omega,by omega,rfl,rfl,λm P=>absurd P (NF _),λm h1 h2=>by omega,a8 _ _⟩
  case round =>
   obtain⟨p,q,hpq,D,rfl,rfl,G,ZW,f⟩:=hrel;by_cases hlt:p<q
   ·obtain⟨m,P⟩:∃m:Nat,m=(p+q) / 2:=⟨_,rfl⟩
    have V:p<=m:=by omega
    have hm2:m<q:=by omega
    obtain⟨C,u,K,ZT⟩:=l.2 m (by omega);replace C:=(f.O (p:=(T b _ Y)) l.1).k C;replace K:=(f.O (p:=(T b _ Y)) l.1).k K;have ZL:=lj l.1 f.size;first|obtain⟨x,rfl⟩:=ZT|obtain⟨x,y,O,rfl⟩:=ZT
    have hsh:((p:Int)+q) / 2=m:=by omega
    clear P;go_wp2_with fail;first|(go_at_call 131;refine(j9 (g m) x t _).P ?_)|(go_at_call 134;refine(ke (g m) x y O t _).P ?_)
    rintro e w1⟨z,rfl,ZQ,_,h⟩;have W:=ae ZQ;have o:=ae (f.k (h.P f.size));clear ZQ h;by_cases hz:z<0
    ·have H:Hid (aC (g m) t=ZH):=by show _=_;rw[<-W.i];exact QD hz
     go_wp2;refine⟨⟨m+1,q,by omega,D,by go_num,rfl,λx R=>?_,ZW,o⟩,by simp[intOf];omega⟩;by_cases e:x=m
     ·subst e;exact H
     ·exact eY (gZ ZO (show x<m by omega) (by omega)) H
    ·have H:Hid (aC (g m) t=ZA):=by show _=_;rw[<-W.i];exact U8 hz
     go_wp2;refine⟨⟨p,m,V,by omega,rfl,rfl,G,λx h1 h2=>?_,o⟩,by simp[intOf];omega⟩;by_cases e:x=m
     ·subst e;exact H
     ·cases R:aC (g x) t with
      |false=>rfl
      |true =>have:=eY (gZ ZO (show m<x by omega) h2) R;rw[H.i] at this;cases this
   ·have e:p=q:=by omega
    subst e;have ZP:=ae (X.k (kU ZO D G ZW));by_cases ZX:p<n
    ·have hlt3:(p:Int)<n:=by omega
     obtain⟨C,u,K,ZT⟩:=l.2 p ZX;replace C:=(f.O (p:=(T b _ Y)) l.1).k C;replace K:=(f.O (p:=(T b _ Y)) l.1).k K;have ZL:=lj l.1 f.size;first|obtain⟨x,rfl⟩:=ZT|obtain⟨x,y,O,rfl⟩:=ZT
     go_wp2_with fail;first|(go_at_call 131;refine(j9 (g p) x t _).P ?_)|(go_at_call 134;refine(ke (g p) x y O t _).P ?_)
     rintro e w1⟨z,rfl,_,L,h⟩;have o:=ae (f.k (h.P f.size));have M:Hid (ZS=decide (z=0)):=by show ZS=_;rw[ZP.i,L];simp[ZX]
     clear L h;by_cases hz:z=0
     ·have r:ZS=ZH:=by rw[M.i];exact QD hz
      subst r;subst hz;go_wp2;exact bp (v:=.tuple #[J I p,ZF ZH]) (by simp[results,XJ,XK,go_sem]) rfl ⟨p,rfl,D,G,ZW,o⟩
     ·have r:ZS=ZA:=by rw[M.i];exact U8 hz
      subst r;have hz':(z == 0)=ZA:=by simpa using hz
      go_wp2;exact bp (v:=.tuple #[J I p,ZF ZA]) (by simp[results,XJ,XK,go_sem]) rfl ⟨p,rfl,D,G,ZW,o⟩
    ·have r:ZS=ZA:=by rw[ZP.i];simp[ZX]
     subst r;have hge:¬ (p:Int)<n:=by omega
     go_wp2;exact bp (v:=.tuple #[J I p,ZF ZA]) (by simp[results,XJ,XK,go_sem]) rfl ⟨p,rfl,D,G,ZW,f⟩
def Ep (s:Bool)(a:O_)(j_:Nat)(g:B_)(t:F_)(w:E):Calls Pg (if s=ZH then 130 else 133) #[Z a 0 j_,U t,.func (.func (if s=ZH then 131 else 134)) #[] #[]] w λe b=>e=ZI (.tuple #[J I 0,ZF (aF g 0 t)])/\b=w:=by
 rw[iS];cases s
 all_goals simp only[Y2,Bool.false_eq_true,UI]
 focus go_enter Tryz.func133,Tryz.ntmps133
 rotate_left;focus go_enter Tryz.func130,Tryz.ntmps130
 all_goals
  go_wp2;go_loop [9,10] (λi j=>i=J I 0/\j=J I 0) (λ_ _=>0);case atStart=>exact⟨rfl,rfl⟩
  case round =>obtain⟨rfl,rfl⟩:=hrel;go_wp2;exact bp (v:=.tuple #[J I 0,ZF ZA]) (by simp[results,XJ,XK,go_sem]) rfl ⟨rfl,rfl⟩
def uE (s:Bool)(a:O_)(n j_:Nat)(g:B_)(t:F_)(w:E)(hn:(n:Int)<=1048576)(h:n=0\/∃b off,a=Q (T b off Y)/\IJ s w b off n g)(p:aK g n=ZH):Calls Pg (if s=ZH then 130 else 133) #[Z a n j_,U t,.func (.func (if s=ZH then 131 else 134)) #[] #[]] w λe j=>∃i:Nat,e=ZI (.tuple #[J I (i:Int),ZF (aF g n t)])/\i<=n/\(∀m,m<i->aC (g m) t=ZH)/\(∀m,i<=m->m<n->aC (g m) t=ZA)/\Below (B (A w)) w j:=by
 rcases h with rfl|⟨b,off,rfl,h⟩
 {exact(Ep s a j_ _ t w).P λe j ⟨l,o⟩=>⟨0,l,by omega,λm f=>absurd f (NF _),λm _ f=>absurd f (NF _),by rw[o];exact a8 _ _⟩};{exact Eo s b off n j_ g t w hn h p}
def fe (a0:O_)(n0 c0:Nat)(a1:O_)(n1 c1:Nat)(f:Nat->Source)(t:F_)(w:E)(hn:(n0:Int)<=1048576)(n:Qy w a0 n0 f)(l:aK (nm0 f) n0=ZH):Calls Pg 95 #[ZJ #[Z a0 n0 c0,Z a1 n1 c1],U t] w λe z=>∃i:Nat,e=ZI (.tuple #[J I (i:Int),ZF (aF (nm0 f) n0 t)])/\i<=n0/\(∀m,m<i->aC (nm0 f m) t=ZH)/\(∀m,i<=m->m<n0->aC (nm0 f m) t=ZA)/\Below (B (A w)) w z:=by
 have j:=ae ((BS w).alloc ly (N #[Z a0 n0 c0,Z a1 n1 c1] 29));have q:=ae (n.aa j ly);have y:=ae l;clear n l;obtain⟨ZS,g⟩:∃ZS,ZS=aF (nm0 f) n0 t:=⟨_,rfl⟩
 rw[<-g];have x:=ae g;clear g;go_enter Tryz.func95,Tryz.ntmps95;go_wp2_with fail;refine(uE ZH a0 n0 c0 (nm0 f) t _ hn (q.i.imp id λ⟨b,o,e,h⟩=>⟨b,o,e,h.1,λi hi=>⟨(h.2 i hi).1,_,(h.2 i hi).2,_,rfl⟩⟩) y).P ?_;rintro e w1⟨i,rfl,hi,h1,h2,p⟩;rw[<-x.i];have u:=ae h1;have r:=ae h2;have s:=ae (j.k (p.P (by simp)));clear h1 h2 p;go_wp2;exact bp (v:=.tuple #[J I i,ZF ZS]) (by simp[results,Tryz.results95,go_sem]) rfl ⟨i,rfl,hi,u,r,s⟩
def fU (a0:O_)(n0 c0:Nat)(a1:O_)(n1 c1:Nat)(f:Nat->Target)(t:F_)(w:E)(hn:(n1:Int)<=1048576)(j:Qx w a1 n1 f)(n:aK (nm1 f) n1=ZH):Calls Pg 96 #[ZJ #[Z a0 n0 c0,Z a1 n1 c1],U t] w λe z=>∃i:Nat,e=ZI (.tuple #[J I (i:Int),ZF (aF (nm1 f) n1 t)])/\i<=n1/\(∀m,m<i->aC (nm1 f m) t=ZH)/\(∀m,i<=m->m<n1->aC (nm1 f m) t=ZA)/\Below (B (A w)) w z:=by
 have p:=ae ((BS w).alloc ly (N #[Z a0 n0 c0,Z a1 n1 c1] 29));have s:=ae (j.aa p ly);have y:=ae n;clear j n;obtain⟨ZS,g⟩:∃ZS,ZS=aF (nm1 f) n1 t:=⟨_,rfl⟩
 rw[<-g];have r:=ae g;clear g;go_enter Tryz.func96,Tryz.ntmps96;go_wp2_with fail
 refine(uE ZA a1 n1 c1 (nm1 f) t _ hn (s.i.imp id λ⟨b,o,e,h⟩=>⟨b,o,e,h.1,λi hi=>by
  obtain⟨q,ka,kc,h1,_⟩:=h.2 i hi
  exact⟨q,_,h1,_,_,_,rfl⟩⟩) y).P ?_
 rintro e w1⟨i,rfl,hi,h1,h2,l⟩;rw[<-r.i];have u:=ae h1;have x:=ae h2;have ZX:=ae (p.k (l.P (by simp)));clear h1 h2 l;go_wp2;exact bp (v:=.tuple #[J I i,ZF ZS]) (by simp[results,Tryz.results96,go_sem]) rfl ⟨i,rfl,hi,u,x,ZX⟩
def rC (a0:O_)(n0 c0:Nat)(f0:Nat->Source)(a1:O_)(n1 c1:Nat)(f1:Nat->Target)(t:F_)(w:E)(hn0:(n0:Int)<=1048576)(hn1:(n1:Int)<=1048576)(h:Qy w a0 n0 f0)(n:Qx w a1 n1 f1)(l:aK (nm0 f0) n0=ZH)(g:aK (nm1 f1) n1=ZH):Calls Pg 98 #[ZJ #[Z a0 n0 c0,Z a1 n1 c1],U t] w λe G=>e=ZI (ZF (aF (nm0 f0) n0 t || aF (nm1 f1) n1 t))/\Below (B (A w)) w G:=by
 have f:=ae ((BS w).alloc ly (N #[Z a0 n0 c0,Z a1 n1 c1] 29));have y:ZV (ZU w (N #[Z a0 n0 c0,Z a1 n1 c1] 29)) (T (B (A w)) 0 Y)=Q (Z a0 n0 c0):=by simp
 have u:ZV (ZU w (N #[Z a0 n0 c0,Z a1 n1 c1] 29)) (T (B (A w)) 1 Y)=Q (Z a1 n1 c1):=by simp
 have H:=ae (h.aa f ly);have ZX:=ae (n.aa f ly);have C:=ae l;have z:=ae g;clear h n l g;obtain⟨ZS,q⟩:∃ZS,ZS=aF (nm0 f0) n0 t:=⟨_,rfl⟩
 obtain⟨ZR,o⟩:∃ZR,ZR=aF (nm1 f1) n1 t:=⟨_,rfl⟩
 rw[<-q,<-o];have s:=ae q;have x:=ae o;clear q o;go_enter Tryz.func98,Tryz.ntmps98;go_wp2_with fail;refine(fe a0 n0 c0 a1 n1 c1 f0 t _ hn0 H C).P ?_;rintro e w1⟨i,rfl,_,_,_,b⟩;have K:=(b.O (p:=(T (B (A w)) 0 Y)) (by simp)).k y;have ZW:=(b.O (p:=(T (B (A w)) 1 Y)) (by simp)).k u;have ZT:=ae (ZX.aa b ly);have r:=ae (f.k (b.P (by simp)));clear b y u f;rw[<-s.i];go_wp2_with fail;refine(fU a0 n0 c0 a1 n1 c1 f1 t _ hn1 ZT z).P ?_;rintro e w2⟨j,rfl,_,_,_,m⟩;have D:=ae (r.k (m.P r.size));clear m K ZW;rw[<-x.i];clear s x;cases ZS
 all_goals
  go_wp2;go_ret;exact⟨rfl,D⟩
def xg (x:Link)(hb:Nat)(h:O_)(n0 z:Nat)(f0:Nat->Source)(g:O_)(n1 o:Nat)(f1:Nat->Target)(w:E)(u:hb<B (A w))(ZR:ZV w (T hb 1 Y)=Q (Z h n0 z))(ZQ:ZV w (T hb 2 Y)=Q (Z g n1 o))(hn0:(n0:Int)<=1048576)(hn1:(n1:Int)<=1048576)(y:Qy w h n0 f0)(n:Qx w g n1 f1)(l:aK (nm0 f0) n0=ZH)(m:aK (nm1 f1) n1=ZH):Calls Pg 100 #[ZJ #[U x.e,ZF x.ask,ZF x.has,J I x.G],.pointer (Q (T hb 0 Y))] w λe ZO=>e=ZI (ZF (dY n0 f0 n1 f1 x))/\Below (B (A w)) w ZO:=by
 have b:=ae ((BS w).alloc ly (N #[U x.e,ZF x.ask,ZF x.has,J I x.G] 65));obtain⟨r,C⟩:∃r,r=dY n0 f0 n1 f1 x:=⟨_,rfl⟩
 rw[<-C];have ZT:=ae (show r=(!x.ask && !(x.has == hZ n0 f0 n1 f1 x.e)) from C);have i:=ae (y.aa b.i ly);have j:=ae (n.aa b.i ly);have K:=ae l;have H:=ae m;clear C y n l m;cases hq:x.ask with
 |true =>
  obtain rfl:r=ZA:=by rw[ZT.i,hq];rfl
  rw[hq] at b;go_enter Tryz.func100,Tryz.ntmps100;go_wp2_with fail;go_quiet (fail);go_wp2;go_ret;exact⟨rfl,AD b.i _⟩
 |false =>
  have D:Hid (r=!(x.has == hZ n0 f0 n1 f1 x.e)):=by show _=_;rw[ZT.i,hq];rfl
  rw[hq] at b i j;obtain⟨c,s⟩:∃c,c=x.has:=⟨_,rfl⟩
  rw[<-s] at b i j D ⊢;clear s ZT;have ZW:=ae (λW (f:Below (B (A (ZU w (N #[U x.e,ZF ZA,ZF c,J I x.G] 65)))) (ZU w (N #[U x.e,ZF ZA,ZF c,J I x.G] 65)) W)=>rC h n0 z f0 g n1 o f1 x.e W hn0 hn1 (i.i.aa f ly) (j.i.aa f ly) K.i H.i);have m0:ZV (ZU w (N #[U x.e,ZF ZA,ZF c,J I x.G] 65)) (T (B (A w)) 0 Y)=Q (U x.e):=by simp
  have P:ZV (ZU w (N #[U x.e,ZF ZA,ZF c,J I x.G] 65)) (T (B (A w)) 1 Y)=Q (ZF ZA):=by simp
  have G:ZV (ZU w (N #[U x.e,ZF ZA,ZF c,J I x.G] 65)) (T (B (A w)) 2 Y)=Q (ZF c):=by simp
  have M:=(b.i.O (p:=(T hb 1 Y)) u).k ZR;have L:=(b.i.O (p:=(T hb 2 Y)) u).k ZQ;have hz:B (A w)<B (A (ZU w (N #[U x.e,ZF ZA,ZF c,J I x.G] 65))):=by simp
  have ZS:hb<B (A (ZU w (N #[U x.e,ZF ZA,ZF c,J I x.G] 65))):=by omega
  have t:Hid (r=!(c == (aF (nm0 f0) n0 x.e || aF (nm1 f1) n1 x.e))):=D.i;generalize (aF (nm0 f0) n0 x.e || aF (nm1 f1) n1 x.e)=q at ZW t;clear i j D;go_enter Tryz.func100,Tryz.ntmps100;go_wp2_with fail;generalize World.alloc w _=W at b ZW m0 P G M L hz ZS ⊢;have K0:=ae (And.intro G (And.intro M L))
  go_region_with (first
   |(go_at_call 98;refine(ZW.i _ ?_).P ?_;(first|exact a8 _ _|exact br.drew);rintro e O⟨rfl,f⟩;have ZX:Hid (Below (B (A W)) W O):=⟨f.os,f.tape,f.output,f.size,f.p⟩;have y2:=(ZX.i.O (p:=(T (B (A w)) 2 Y)) hz).k G;have hz1:B (A w)<B (A O):=lj hz ZX.i.size;clear f))
  all_goals
   go_simp;go_wp2;go_ret;exact⟨by simp[t.i],b.i.k (ZX.i.P b.i.size)⟩
def tN (b off m c:Nat)(h:Nat->Link)(hb:Nat)(n:O_)(n0 C:Nat)(f0:Nat->Source)(l:O_)(n1 y:Nat)(f1:Nat->Target)(w:E)(hm:(m:Int)<=1048576)(j:RowLink w b off m h)(g:hb<B (A w))(u:ZV w (T hb 1 Y)=Q (Z n n0 C))(ZW:ZV w (T hb 2 Y)=Q (Z l n1 y))(hn0:(n0:Int)<=1048576)(hn1:(n1:Int)<=1048576)(ZX:Qy w n n0 f0)(t:Qx w l n1 f1)(q:aK (nm0 f0) n0=ZH)(s:aK (nm1 f1) n1=ZH):Calls Pg 135 #[Z (Q (T b off Y)) m c,.func (.func 100) #[] #[.pointer (Q (T hb 0 Y))]] w λe K=>∃r:Int,e=ZI (J I r)/\decide (0<=r)=aM (λk=>dY n0 f0 n1 f1 (h k)) m/\Below (B (A w)) w K:=by
 have ZS:=ae j;have H:=ae (λW (f:Below (B (A w)) w W) x=>xg x hb n n0 C f0 l n1 y f1 W (lj g f.size) ((f.O (p:=(T hb 1 Y)) g).k u) ((f.O (p:=(T hb 2 Y)) g).k ZW) hn0 hn1 (ZX.aa f ly) (t.aa f ly) q s);clear j ZX t q s u ZW g;go_enter Tryz.func135,Tryz.ntmps135;go_wp2;go_loopw [8] (λi wr=>∃k:Nat,k<=m/\i=J I k/\Hid (aM (λk=>dY n0 f0 n1 f1 (h k)) k=ZA)/\Hid (Below (B (A w)) w wr)) (λi _=>m - (intOf i).toNat);case atStart=>exact⟨0,by omega,rfl,rfl,a8 _ _⟩
 case round =>
  obtain⟨k,hk,rfl,G,o⟩:=hrel;by_cases z:k<m
  ·obtain⟨M,L,ZQ,ZR⟩:=(ZS.i.aa o.i ly).2 k z;go_wp2_with fail;go_at_call 100;refine(H.i _ o.i (h k)).P ?_;rintro e w1⟨rfl,f⟩;have ZT:=ae (o.i.k (f.P o.i.size));clear f M L ZQ ZR;cases hq:dY n0 f0 n1 f1 (h k) with
   |true =>have D:=ae hq;clear hq;go_wp2;go_ret;exact⟨k,rfl,by rw[cS (p:=λk=>dY n0 f0 n1 f1 (h k)) z D.i];simp,ZT.i⟩
   |false =>have D:=ae hq;clear hq;go_wp2;exact⟨⟨k+1,by omega,by go_num,by show aM _ (k+1)=ZA;rw[aM,G.i,D.i];rfl,ZT.i⟩,by simp[intOf];omega⟩
  ·obtain rfl:k=m:=by omega
   go_wp2;go_ret;exact⟨-1,rfl,by rw[G.i];rfl,o.i⟩
def tO (a:O_)(c hb:Nat)(w:E):Calls Pg 135 #[Z a 0 c,.func (.func 100) #[] #[.pointer (Q (T hb 0 Y))]] w λe b=>e=ZI (J I (-1))/\b=w:=by
 go_enter Tryz.func135,Tryz.ntmps135;go_wp2;go_loop [8] (λi=>i=J I 0) (λ_=>0);case atStart=>rfl
 case round =>subst hrel;go_wp2;go_ret;exact⟨rfl,rfl⟩
def tP (a:O_)(m c:Nat)(h:Nat->Link)(hb:Nat)(g:O_)(n0 l:Nat)(f0:Nat->Source)(i:O_)(n1 j:Nat)(f1:Nat->Target)(w:E)(ZX:(m:Int)<=1048576)(f:SlLink w a m h)(n:hb<B (A w))(x:ZV w (T hb 1 Y)=Q (Z g n0 l))(y:ZV w (T hb 2 Y)=Q (Z i n1 j))(hn0:(n0:Int)<=1048576)(hn1:(n1:Int)<=1048576)(t:Qy w g n0 f0)(u:Qx w i n1 f1)(o:aK (nm0 f0) n0=ZH)(s:aK (nm1 f1) n1=ZH):Calls Pg 135 #[Z a m c,.func (.func 100) #[] #[.pointer (Q (T hb 0 Y))]] w λe z=>∃r:Int,e=ZI (J I r)/\decide (0<=r)=aM (λk=>dY n0 f0 n1 f1 (h k)) m/\Below (B (A w)) w z:=by
 rcases f with rfl|⟨b,off,rfl,f⟩
 {exact(tO a c hb w).P λe z ⟨p,q⟩=>⟨-1,p,rfl,by rw[q];exact a8 _ _⟩};{exact tN b off m c h hb g n0 l f0 i n1 j f1 w ZX f n x y hn0 hn1 t u o s}
def pn (a:O_)(m c:Nat)(h:Nat->Link)(hb:Nat)(b:O_)(n0 o:Nat)(f0:Nat->Source)(g:O_)(n1 l:Nat)(f1:Nat->Target)(w:E)(C:(m:Int)<=1048576)(f:SlLink w a m h)(z:hb<B (A w))(j:ZV w (T hb 1 Y)=Q (Z b n0 o))(n:ZV w (T hb 2 Y)=Q (Z g n1 l))(hn0:(n0:Int)<=1048576)(hn1:(n1:Int)<=1048576)(s:Qy w b n0 f0)(i:Qx w g n1 f1)(p:aK (nm0 f0) n0=ZH)(q:aK (nm1 f1) n1=ZH):Calls Pg 99 #[Z a m c,.func (.func 100) #[] #[.pointer (Q (T hb 0 Y))]] w λe D=>e=ZI (ZF (aM (λk=>dY n0 f0 n1 f1 (h k)) m))/\Below (B (A w)) w D:=by
 have x:=ae (tP a m c h hb b n0 o f0 g n1 l f1 w C f z j n hn0 hn1 s i p q);obtain⟨ZX,t⟩:∃ZX,ZX=aM (λk=>dY n0 f0 n1 f1 (h k)) m:=⟨_,rfl⟩
 rw[<-t];rw[<-t] at x;clear t s i p q f j n;go_enter Tryz.func99,Tryz.ntmps99;go_wp2_with fail;refine x.i.P ?_;rintro e w1⟨r,rfl,y,u⟩;have ZW:=ae y;have ZT:=ae u;clear y u;go_wp2;go_ret;exact⟨bv ZW.i,ZT.i⟩
def zn (x m n j_:Nat)(f:O_)(n0 j:Nat)(f0:Nat->Source)(g:O_)(n1 i:Nat)(f1:Nat->Target)(d:au)(a0:O_)(h:Nat)(a1:O_)(b:Nat)(w:E)(hn0:(n0:Int)<=1048576)(hn1:(n1:Int)<=1048576)(s:Qy w f n0 f0)(o:Qx w g n1 f1)(p:aK (nm0 f0) n0=ZH)(q:aK (nm1 f1) n1=ZH)(hL:SlLink w a1 d.f d.m)(hfl:d.f<=1048576):Calls Pg 62 #[ZJ #[Z (Q (T x m Y)) n j_,Z f n0 j,Z g n1 i],ZJ #[U d.e,J I d.L,J I d.M,U d.H,Z a0 d.h h,Z a1 d.f b]] w λe ZW=>e=ZI (ZF (hasB n0 f0 n1 f1 d))/\Below (B (A w)) w ZW:=by
 have l:=ae (((BS w).alloc ly (N #[Z (Q (T x m Y)) n j_,Z f n0 j,Z g n1 i] 107)).alloc (by simp) (N #[U d.e,J I d.L,J I d.M,U d.H,Z a0 d.h h,Z a1 d.f b] 62));have z:=ae (pn a1 d.f b d.m (B (A w)) f n0 j f0 g n1 i f1 _ (by omega) (hL.aa l.i ly) (by simp;omega) (by simp[go_sem]) (by simp[go_sem]) hn0 hn1 (s.aa l.i ly) (o.aa l.i ly) p q);obtain⟨r,t⟩:∃r,r=hasB n0 f0 n1 f1 d:=⟨_,rfl⟩
 rw[<-t];have y:=ae (show aM (λk=>dY n0 f0 n1 f1 (d.m k)) d.f=r from t.c);rw[y.i] at z;clear t s o p q hL y;go_enter Tryz.func62,Tryz.ntmps62;go_wp2_with fail;refine z.i.P ?_;rintro e w1⟨rfl,u⟩;have ZX:=ae (l.i.k (u.P l.i.size));clear u;go_wp2;go_ret;exact⟨rfl,ZX.i⟩
