import Derived.Shelf.Strings.Trim
import Derived.Shelf.Small.Utf8
import Derived.Shelf.Small.Strs
import Derived.Shelf.Strconv.Itoa0
import Derived.Shelf.Strconv.Itoa1
import Derived.Shelf.LaysM
import Derived.Shelf.Strconv.Itoa2
import Derived.Shelf.Strconv.Itoa3
import Derived.Shelf.Strings.Search1
import Derived.Shelf.Strings.Runes
import Derived.Shelf.Strings.IndexAny
import Derived.Shelf.Strings.AsciiSet
import Derived.Shelf.Strings.IndexAnyAll
import Derived.Shelf.Unicode.DecodeSlow
import Derived.Ground.Names2Prog
import Derived.Shelf.Slices.Clone
import Derived.Test.YtkdimgejdocbbaaGreatDoorProg
open Go.Value renaming string->U,int->N,bool->QA
open Option renaming some->Q
open Go.IntKind renaming i64->I
open Go renaming World->E
open Go.Ending renaming returned->QD
namespace Go.Proofs
open Go.Shelf
def Tryz.lays161_ren:Go.Shelf.Ren:=⟨fun | 161=>265 | 231=>284 | 227=>285 | 233=>286 | 235=>287 | 228=>290 | 197=>300 | 151=>301 | 260=>311 | 152=>288 | 137=>302 | 119=>303 | 224=>304 | 225=>305 | 217=>312 | 266=>315 | n=>n,fun | 9=>9 | 4=>4 | 3=>3 | 5=>5 | 117=>338 | 116=>337 | 0=>0 | 124=>341 | 105=>354 | 21=>21 | 119=>364 | 46=>262 | 139=>367 | 138=>366 | n=>n,fun | 3=>3 | 4=>4 | n=>n⟩
theorem Tryz.lays161:Go.Proofs.Lays.n161 Tryz.prog Tryz.lays161_ren:={
 mixed:=by kernel_rfl
 f119:=Tryz.func303.trans (congrArg Q (by kernel_rfl))
 f137:=Tryz.func302.trans (congrArg Q (by kernel_rfl))
 f151:=Tryz.func301.trans (congrArg Q (by kernel_rfl))
 f152:=Tryz.func288.trans (congrArg Q (by kernel_rfl))
 f161:=Tryz.func265.trans (congrArg Q (by kernel_rfl))
 f197:=Tryz.func300.trans (congrArg Q (by kernel_rfl))
 f217:=Tryz.func312.trans (congrArg Q (by kernel_rfl))
 f224:=Tryz.func304.trans (congrArg Q (by kernel_rfl))
 f225:=Tryz.func305.trans (congrArg Q (by kernel_rfl))
 f227:=Tryz.func285.trans (congrArg Q (by kernel_rfl))
 f228:=Tryz.func290.trans (congrArg Q (by kernel_rfl))
 f231:=Tryz.func284.trans (congrArg Q (by kernel_rfl))
 f233:=Tryz.func286.trans (congrArg Q (by kernel_rfl))
 f235:=Tryz.func287.trans (congrArg Q (by kernel_rfl))
 f260:=Tryz.func311.trans (congrArg Q (by kernel_rfl))
 f266:=Tryz.func315.trans (congrArg Q (by kernel_rfl))
 t0:=Tryz.underlying0
 a0:=Tryz.isAgg0
 z0:=Tryz.sizeOf0
 v0:=Tryz.zeroValue0
 t3:=Tryz.underlying3
 a3:=Tryz.isAgg3
 z3:=Tryz.sizeOf3
 v3:=Tryz.zeroValue3
 t4:=Tryz.underlying4
 a4:=Tryz.isAgg4
 z4:=Tryz.sizeOf4
 v4:=Tryz.zeroValue4
 t5:=Tryz.underlying5
 a5:=Tryz.isAgg5
 z5:=Tryz.sizeOf5
 v5:=Tryz.zeroValue5
 t9:=Tryz.underlying9
 a9:=Tryz.isAgg9
 z9:=Tryz.sizeOf9
 v9:=Tryz.zeroValue9
 t21:=Tryz.underlying21
 a21:=Tryz.isAgg21
 z21:=Tryz.sizeOf21
 v21:=Tryz.zeroValue21
 t46:=Tryz.underlying262
 a46:=Tryz.isAgg262
 z46:=Tryz.sizeOf262
 v46:=Tryz.zeroValue262
 t105:=Tryz.underlying354
 a105:=Tryz.isAgg354
 z105:=Tryz.sizeOf354
 v105:=Tryz.zeroValue354
 t116:=Tryz.underlying337
 a116:=Tryz.isAgg337
 z116:=Tryz.sizeOf337
 t117:=Tryz.underlying338
 a117:=Tryz.isAgg338
 z117:=Tryz.sizeOf338
 v117:=Tryz.zeroValue338
 t119:=Tryz.underlying364
 a119:=Tryz.isAgg364
 z119:=Tryz.sizeOf364
 t124:=Tryz.underlying341
 a124:=Tryz.isAgg341
 z124:=Tryz.sizeOf341
 v124:=Tryz.zeroValue341
 t138:=Tryz.underlying366
 a138:=Tryz.isAgg366
 z138:=Tryz.sizeOf366
 v138:=Tryz.zeroValue366
 t139:=Tryz.underlying367
 a139:=Tryz.isAgg367
 z139:=Tryz.sizeOf367
 v139:=Tryz.zeroValue367
 g3:=by kernel_rfl
 g4:=by kernel_rfl }
def Tryz.lays119_ren:Go.Shelf.Ren:=⟨fun | 119=>303 | n=>n,fun | 21=>21 | 4=>4 | n=>n,fun | n=>n⟩
theorem Tryz.lays119:Go.Proofs.Lays.n119 Tryz.prog Tryz.lays119_ren:={
 mixed:=by kernel_rfl
 f119:=Tryz.func303.trans (congrArg Q (by kernel_rfl))
 t4:=Tryz.underlying4
 a4:=Tryz.isAgg4
 z4:=Tryz.sizeOf4
 v4:=Tryz.zeroValue4
 t21:=Tryz.underlying21
 a21:=Tryz.isAgg21
 z21:=Tryz.sizeOf21
 v21:=Tryz.zeroValue21 }
theorem Tryz.utf8_ValidRune (r:Int)(w:E):Calls Tryz.prog 303 #[N .i32 r] w fun e b=>e=QD (QA (Lib.validRune r))/\b=w:=Any.utf8_ValidRune Tryz.lays119 r w
def Tryz.lays213_ren:Go.Shelf.Ren:=⟨fun | 213=>208 | 265=>238 | n=>n,fun | 9=>9 | 3=>3 | n=>n,fun | n=>n⟩
def Tryz.lays106_ren:Go.Shelf.Ren:=⟨fun | 106=>148 | 213=>208 | 265=>238 | n=>n,fun | 9=>9 | 3=>3 | n=>n,fun | n=>n⟩
theorem Tryz.lays106:Go.Proofs.Lays.n106 Tryz.prog Tryz.lays106_ren:={
 mixed:=by kernel_rfl
 f106:=Tryz.func148.trans (congrArg Q (by kernel_rfl))
 f213:=Tryz.func208.trans (congrArg Q (by kernel_rfl))
 f265:=Tryz.func238.trans (congrArg Q (by kernel_rfl))
 t3:=Tryz.underlying3
 a3:=Tryz.isAgg3
 z3:=Tryz.sizeOf3
 v3:=Tryz.zeroValue3
 t9:=Tryz.underlying9
 a9:=Tryz.isAgg9
 z9:=Tryz.sizeOf9
 v9:=Tryz.zeroValue9 }
open RowKit in
theorem Tryz.strings_Compare (a b:ByteArray)(w:E):Calls Tryz.prog 148 #[U a,U b] w fun e d=>e=QD (N I (Lib.compareBytes a.data.toList b.data.toList))/\d=w:=Any.strings_Compare Tryz.lays106 a b w
def Tryz.lays137_ren:Go.Shelf.Ren:=⟨fun | 137=>302 | 217=>312 | 266=>315 | n=>n,fun | 9=>9 | 5=>5 | 3=>3 | n=>n,fun | n=>n⟩
theorem Tryz.lays137:Go.Proofs.Lays.n137 Tryz.prog Tryz.lays137_ren:={
 mixed:=by kernel_rfl
 f137:=Tryz.func302.trans (congrArg Q (by kernel_rfl))
 f217:=Tryz.func312.trans (congrArg Q (by kernel_rfl))
 f266:=Tryz.func315.trans (congrArg Q (by kernel_rfl))
 t3:=Tryz.underlying3
 a3:=Tryz.isAgg3
 z3:=Tryz.sizeOf3
 v3:=Tryz.zeroValue3
 t5:=Tryz.underlying5
 a5:=Tryz.isAgg5
 z5:=Tryz.sizeOf5
 v5:=Tryz.zeroValue5
 t9:=Tryz.underlying9
 a9:=Tryz.isAgg9
 z9:=Tryz.sizeOf9
 v9:=Tryz.zeroValue9 }
open RowKit in
theorem Tryz.strings_IndexByte (s:ByteArray)(c:Int)(w:E):Calls Tryz.prog 302 #[U s,N .u8 c] w fun e b=>e=QD (N I (Lib.indexByte s.data.toList c.toNat.toUInt8))/\b=w:=Any.strings_IndexByte Tryz.lays137 s c w
def Tryz.lays318_ren:Go.Shelf.Ren:=⟨fun | 318=>308 | n=>n,fun | 3=>3 | 4=>4 | n=>n,fun | n=>n⟩
def Tryz.laysM246_ren:Go.Shelf.Ren:=⟨fun | 246=>283 | 283=>296 | 284=>297 | 285=>298 | 286=>299 | 129=>276 | 317=>307 | 318=>308 | 319=>309 | 320=>310 | 337=>313 | 338=>314 | n=>n,fun | 2=>2 | 3=>3 | 9=>9 | 4=>4 | 171=>350 | 0=>0 | 53=>328 | 37=>22 | 5=>5 | 173=>352 | 212=>362 | 51=>326 | 20=>20 | 213=>363 | 46=>262 | 232=>368 | 233=>369 | n=>n,fun | 17=>2 | 18=>5 | 19=>6 | n=>n⟩
def Tryz.laysM243_ren:Go.Shelf.Ren:=⟨fun | 243=>264 | 246=>283 | 283=>296 | 284=>297 | 285=>298 | 286=>299 | 129=>276 | 317=>307 | 318=>308 | 319=>309 | 320=>310 | 337=>313 | 338=>314 | n=>n,fun | 3=>3 | 9=>9 | 2=>2 | 4=>4 | 171=>350 | 0=>0 | 53=>328 | 37=>22 | 5=>5 | 173=>352 | 212=>362 | 51=>326 | 20=>20 | 213=>363 | 46=>262 | 232=>368 | 233=>369 | n=>n,fun | 17=>2 | 18=>5 | 19=>6 | n=>n⟩
def Tryz.laysM171_ren:Go.Shelf.Ren:=⟨fun | 171=>245 | 243=>264 | 246=>283 | 283=>296 | 284=>297 | 285=>298 | 286=>299 | 129=>276 | 317=>307 | 318=>308 | 319=>309 | 320=>310 | 337=>313 | 338=>314 | n=>n,fun | 3=>3 | 9=>9 | 2=>2 | 4=>4 | 171=>350 | 0=>0 | 53=>328 | 37=>22 | 5=>5 | 173=>352 | 212=>362 | 51=>326 | 20=>20 | 213=>363 | 46=>262 | 232=>368 | 233=>369 | n=>n,fun | 17=>2 | 18=>5 | 19=>6 | n=>n⟩
theorem Tryz.laysM171:Go.Proofs.LaysM.n171 Tryz.prog Tryz.laysM171_ren:={
 mixed:=by kernel_rfl
 f129:=Tryz.func276.trans (congrArg Q (by kernel_rfl))
 f171:=Tryz.func245.trans (congrArg Q (by kernel_rfl))
 f243:=Tryz.func264.trans (congrArg Q (by kernel_rfl))
 f246:=Tryz.func283.trans (congrArg Q (by kernel_rfl))
 f283:=Tryz.func296.trans (congrArg Q (by kernel_rfl))
 f284:=Tryz.func297.trans (congrArg Q (by kernel_rfl))
 f285:=Tryz.func298.trans (congrArg Q (by kernel_rfl))
 f286:=Tryz.func299.trans (congrArg Q (by kernel_rfl))
 f317:=Tryz.func307.trans (congrArg Q (by kernel_rfl))
 f318:=Tryz.func308.trans (congrArg Q (by kernel_rfl))
 f319:=Tryz.func309.trans (congrArg Q (by kernel_rfl))
 f320:=Tryz.func310.trans (congrArg Q (by kernel_rfl))
 f337:=Tryz.func313.trans (congrArg Q (by kernel_rfl))
 f338:=Tryz.func314.trans (congrArg Q (by kernel_rfl))
 t0:=Tryz.underlying0
 a0:=Tryz.isAgg0
 z0:=Tryz.sizeOf0
 v0:=Tryz.zeroValue0
 t2:=Tryz.underlying2
 a2:=Tryz.isAgg2
 z2:=Tryz.sizeOf2
 v2:=Tryz.zeroValue2
 t3:=Tryz.underlying3
 a3:=Tryz.isAgg3
 z3:=Tryz.sizeOf3
 v3:=Tryz.zeroValue3
 t4:=Tryz.underlying4
 a4:=Tryz.isAgg4
 z4:=Tryz.sizeOf4
 v4:=Tryz.zeroValue4
 t5:=Tryz.underlying5
 a5:=Tryz.isAgg5
 z5:=Tryz.sizeOf5
 v5:=Tryz.zeroValue5
 t9:=Tryz.underlying9
 a9:=Tryz.isAgg9
 z9:=Tryz.sizeOf9
 v9:=Tryz.zeroValue9
 t20:=Tryz.underlying20
 a20:=Tryz.isAgg20
 z20:=Tryz.sizeOf20
 v20:=Tryz.zeroValue20
 t37:=Tryz.underlying22
 a37:=Tryz.isAgg22
 z37:=Tryz.sizeOf22
 v37:=Tryz.zeroValue22
 t46:=Tryz.underlying262
 a46:=Tryz.isAgg262
 z46:=Tryz.sizeOf262
 v46:=Tryz.zeroValue262
 t51:=Tryz.underlying326
 a51:=Tryz.isAgg326
 z51:=Tryz.sizeOf326
 v51:=Tryz.zeroValue326
 t53:=Tryz.underlying328
 a53:=Tryz.isAgg328
 z53:=Tryz.sizeOf328
 v53:=Tryz.zeroValue328
 t171:=Tryz.underlying350
 a171:=Tryz.isAgg350
 z171:=Tryz.sizeOf350
 v171:=Tryz.zeroValue350
 t173:=Tryz.underlying352
 a173:=Tryz.isAgg352
 z173:=Tryz.sizeOf352
 v173:=Tryz.zeroValue352
 t212:=Tryz.underlying362
 a212:=Tryz.isAgg362
 z212:=Tryz.sizeOf362
 v212:=Tryz.zeroValue362
 t213:=Tryz.underlying363
 a213:=Tryz.isAgg363
 z213:=Tryz.sizeOf363
 t232:=Tryz.underlying368
 a232:=Tryz.isAgg368
 z232:=Tryz.sizeOf368
 v232:=Tryz.zeroValue368
 t233:=Tryz.underlying369
 a233:=Tryz.isAgg369
 z233:=Tryz.sizeOf369
 v233:=Tryz.zeroValue369
 g17:=by kernel_rfl
 g18:=by kernel_rfl
 g19:=by kernel_rfl
 i0:=by kernel_rfl
 i2:=by kernel_rfl
 i3:=by kernel_rfl
 i4:=by kernel_rfl
 i5:=by kernel_rfl
 i9:=by kernel_rfl
 i20:=by kernel_rfl
 i37:=by kernel_rfl
 i46:=by kernel_rfl
 i51:=by kernel_rfl
 i53:=by kernel_rfl
 i171:=by kernel_rfl
 i173:=by kernel_rfl
 i212:=by kernel_rfl
 i232:=by kernel_rfl
 i233:=by kernel_rfl
 m17:=by kernel_rfl
 m18:=by kernel_rfl
 m19:=by kernel_rfl }
open RowKit Go.Sort Go.Lib in
theorem Tryz.strconv_Itoa (n:Int)(f:-9223372036854775808<=n)(h1:n<=9223372036854775807)(w:E)(b:Lib.TabIs Tryz.prog w "internal/strconv.uint64pow10" .u64 Lib.pow10Tab):Calls Tryz.prog 245 #[N I n] w fun e d=>e=QD (U ⟨(Lib.itoa n).toArray⟩)/\∃ k os,d=grow (w.drewN k) os:=Any.strconv_Itoa Tryz.laysM171 n f h1 w b
def Tryz.lays152_ren:Go.Shelf.Ren:=⟨fun | 152=>288 | 137=>302 | 119=>303 | 224=>304 | 225=>305 | 217=>312 | 266=>315 | n=>n,fun | 9=>9 | 21=>21 | 3=>3 | 4=>4 | 5=>5 | 0=>0 | 46=>262 | n=>n,fun | n=>n⟩
theorem Tryz.lays152:Go.Proofs.Lays.n152 Tryz.prog Tryz.lays152_ren:={
 mixed:=by kernel_rfl
 f119:=Tryz.func303.trans (congrArg Q (by kernel_rfl))
 f137:=Tryz.func302.trans (congrArg Q (by kernel_rfl))
 f152:=Tryz.func288.trans (congrArg Q (by kernel_rfl))
 f217:=Tryz.func312.trans (congrArg Q (by kernel_rfl))
 f224:=Tryz.func304.trans (congrArg Q (by kernel_rfl))
 f225:=Tryz.func305.trans (congrArg Q (by kernel_rfl))
 f266:=Tryz.func315.trans (congrArg Q (by kernel_rfl))
 t0:=Tryz.underlying0
 a0:=Tryz.isAgg0
 z0:=Tryz.sizeOf0
 v0:=Tryz.zeroValue0
 t3:=Tryz.underlying3
 a3:=Tryz.isAgg3
 z3:=Tryz.sizeOf3
 v3:=Tryz.zeroValue3
 t4:=Tryz.underlying4
 a4:=Tryz.isAgg4
 z4:=Tryz.sizeOf4
 v4:=Tryz.zeroValue4
 t5:=Tryz.underlying5
 a5:=Tryz.isAgg5
 z5:=Tryz.sizeOf5
 v5:=Tryz.zeroValue5
 t9:=Tryz.underlying9
 a9:=Tryz.isAgg9
 z9:=Tryz.sizeOf9
 v9:=Tryz.zeroValue9
 t21:=Tryz.underlying21
 a21:=Tryz.isAgg21
 z21:=Tryz.sizeOf21
 v21:=Tryz.zeroValue21
 t46:=Tryz.underlying262
 a46:=Tryz.isAgg262
 z46:=Tryz.sizeOf262
 v46:=Tryz.zeroValue262 }
open RowKit Go.Lib in
theorem Tryz.strings_IndexRune_ascii (s:ByteArray)(r:Int)(w:E)(d:0<=r)(h1:r<128):Calls Tryz.prog 288 #[U s,N .i32 r] w fun e b=>e=QD (N I (Lib.indexByte s.data.toList r.toNat.toUInt8))/\b=w:=Any.strings_IndexRune_ascii Tryz.lays152 s r w d h1
def Tryz.lays226_ren:Go.Shelf.Ren:=⟨fun | 226=>289 | n=>n,fun | 3=>3 | 4=>4 | n=>n,fun | n=>n⟩
theorem Tryz.lays226:Go.Proofs.Lays.n226 Tryz.prog Tryz.lays226_ren:={
 mixed:=by kernel_rfl
 f226:=Tryz.func289.trans (congrArg Q (by kernel_rfl))
 t3:=Tryz.underlying3
 a3:=Tryz.isAgg3
 z3:=Tryz.sizeOf3
 v3:=Tryz.zeroValue3
 t4:=Tryz.underlying4
 a4:=Tryz.isAgg4
 z4:=Tryz.sizeOf4
 v4:=Tryz.zeroValue4 }
open RowKit Go.Lib in
theorem Tryz.strings_shouldUseASCIISet (n:Int)(w:E):Calls Tryz.prog 289 #[N I n] w fun e b=>e=QD (QA (decide (8<n)))/\b=w:=Any.strings_shouldUseASCIISet Tryz.lays226 n w
def Tryz.lays153_ren:Go.Shelf.Ren:=⟨fun | 153=>266 | 152=>288 | 226=>289 | 227=>285 | 228=>290 | 137=>302 | 119=>303 | 224=>304 | 225=>305 | 217=>312 | 266=>315 | n=>n,fun | 9=>9 | 3=>3 | 4=>4 | 5=>5 | 21=>21 | 117=>338 | 116=>337 | 0=>0 | 46=>262 | 124=>341 | n=>n,fun | n=>n⟩
theorem Tryz.lays153:Go.Proofs.Lays.n153 Tryz.prog Tryz.lays153_ren:={
 mixed:=by kernel_rfl
 f119:=Tryz.func303.trans (congrArg Q (by kernel_rfl))
 f137:=Tryz.func302.trans (congrArg Q (by kernel_rfl))
 f152:=Tryz.func288.trans (congrArg Q (by kernel_rfl))
 f153:=Tryz.func266.trans (congrArg Q (by kernel_rfl))
 f217:=Tryz.func312.trans (congrArg Q (by kernel_rfl))
 f224:=Tryz.func304.trans (congrArg Q (by kernel_rfl))
 f225:=Tryz.func305.trans (congrArg Q (by kernel_rfl))
 f226:=Tryz.func289.trans (congrArg Q (by kernel_rfl))
 f227:=Tryz.func285.trans (congrArg Q (by kernel_rfl))
 f228:=Tryz.func290.trans (congrArg Q (by kernel_rfl))
 f266:=Tryz.func315.trans (congrArg Q (by kernel_rfl))
 t0:=Tryz.underlying0
 a0:=Tryz.isAgg0
 z0:=Tryz.sizeOf0
 v0:=Tryz.zeroValue0
 t3:=Tryz.underlying3
 a3:=Tryz.isAgg3
 z3:=Tryz.sizeOf3
 v3:=Tryz.zeroValue3
 t4:=Tryz.underlying4
 a4:=Tryz.isAgg4
 z4:=Tryz.sizeOf4
 v4:=Tryz.zeroValue4
 t5:=Tryz.underlying5
 a5:=Tryz.isAgg5
 z5:=Tryz.sizeOf5
 v5:=Tryz.zeroValue5
 t9:=Tryz.underlying9
 a9:=Tryz.isAgg9
 z9:=Tryz.sizeOf9
 v9:=Tryz.zeroValue9
 t21:=Tryz.underlying21
 a21:=Tryz.isAgg21
 z21:=Tryz.sizeOf21
 v21:=Tryz.zeroValue21
 t46:=Tryz.underlying262
 a46:=Tryz.isAgg262
 z46:=Tryz.sizeOf262
 v46:=Tryz.zeroValue262
 t116:=Tryz.underlying337
 a116:=Tryz.isAgg337
 z116:=Tryz.sizeOf337
 t117:=Tryz.underlying338
 a117:=Tryz.isAgg338
 z117:=Tryz.sizeOf338
 v117:=Tryz.zeroValue338
 t124:=Tryz.underlying341
 a124:=Tryz.isAgg341
 z124:=Tryz.sizeOf341
 v124:=Tryz.zeroValue341 }
open RowKit Go.Lib in
theorem Tryz.strings_IndexAny_long (g:∀ w,(zeroValue 337).run Tryz.prog w=.ok (.agg (Array.replicate 256 (QA false))) w)(s d:ByteArray)(w:E)(h2:2<=d.size)(i:8<s.size)(k:s.size<4294967281)(h:d.size<4294967281)(f:∀ (j:Nat) b,d.data.toList[j]?=Q b->b.toNat<128):Calls Tryz.prog 266 #[U s,U d] w fun e l=>e=QD (N I (Lib.indexAny s.data.toList d.data.toList))/\l=((w.alloc (.cells (Lib.setCells d.data.toList) 337)).alloc (.cells (Lib.setCells d.data.toList) 337)):=Any.strings_IndexAny_long Tryz.lays153 g (by kernel_rfl) s d w h2 i k h f
def Tryz.laysNm216_ren:Go.Shelf.Ren:=⟨fun | 16=>213 | n=>n,fun | 24=>39 | 9=>9 | 4=>4 | n=>n,fun | n=>n⟩
theorem Tryz.laysNm216:Go.Proofs.Lays2.n16 Tryz.prog Tryz.laysNm216_ren:={
 mixed:=by kernel_rfl
 f16:=Tryz.func213.trans (congrArg Q (by kernel_rfl))
 t4:=Tryz.underlying4
 a4:=Tryz.isAgg4
 z4:=Tryz.sizeOf4
 v4:=Tryz.zeroValue4
 t9:=Tryz.underlying9
 a9:=Tryz.isAgg9
 z9:=Tryz.sizeOf9
 v9:=Tryz.zeroValue9
 t24:=Tryz.underlying39
 a24:=Tryz.isAgg39
 z24:=Tryz.sizeOf39
 v24:=Tryz.zeroValue39
 i9:=by kernel_rfl }
open RowKit Go.Lib in
theorem Tryz.slices_Clone_string (b off n c:Nat)(d:List ByteArray)(w:E)(hz:n<=d.length)(g:n*16<=140737488355328)(i:∀ j,j<d.length->w.cell? ⟨b,off+j,none⟩=Q (U (d.getD j ByteArray.empty))):Calls Tryz.prog 213 #[.slice (Q ⟨b,off,none⟩) n c] w fun e h=>∃ f,e=QD f/\h.ownsRow w.heap.size 9 1 f n ((d.take n).map (Value.string))/\f≠.slice none 0 0/\Below w.heap.size w h:=Any.slices_Clone_string Tryz.laysNm216 b off n c d w hz g i
end Go.Proofs
