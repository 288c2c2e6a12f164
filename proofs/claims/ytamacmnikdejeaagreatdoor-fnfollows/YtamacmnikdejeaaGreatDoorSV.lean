import Derived.Shelf.Strings.Trim
import Derived.Shelf.Small.Utf8
import Derived.Shelf.Small.Strs
import Derived.Shelf.Strconv.Itoa0
import Derived.Shelf.Strconv.Itoa1
import Derived.Shelf.LaysM
import Derived.Shelf.Strconv.Itoa2
import Derived.Shelf.Strconv.Itoa3
import Derived.Shelf.Strings.Search1
import Derived.Shelf.Strings.Runes
import Derived.Shelf.Strings.IndexAny
import Derived.Shelf.Strings.AsciiSet
import Derived.Shelf.Strings.IndexAnyAll
import Derived.Shelf.Unicode.DecodeSlow
import Derived.Ground.Names2Prog
import Derived.Shelf.Slices.Clone
import Derived.Test.YtamacmnikdejeaaGreatDoorProg
open Go.Value renaming string->U,int->J,bool->QC
open Option renaming some->T
open Go.IntKind renaming i64->I
open Go renaming World->G
open Go.Ending renaming returned->QF
namespace Go.Proofs
open Go.Shelf
def Tryz.lays161_ren:Go.Shelf.Ren:=⟨fun | 161=>226 | 231=>229 | 227=>230 | 233=>231 | 235=>232 | 228=>235 | 197=>240 | 151=>241 | 260=>250 | 152=>233 | 137=>242 | 119=>243 | 224=>244 | 225=>245 | 217=>251 | 266=>254 | n=>n,fun | 9=>9 | 4=>4 | 3=>3 | 5=>5 | 117=>314 | 116=>313 | 0=>0 | 124=>317 | 105=>324 | 21=>21 | 119=>332 | 46=>267 | 139=>335 | 138=>334 | n=>n,fun | 3=>3 | 4=>4 | n=>n⟩
theorem Tryz.lays161:Go.Proofs.Lays.n161 Tryz.prog Tryz.lays161_ren:={
 mixed:=by kernel_rfl
 f119:=Tryz.func243.trans (congrArg T (by kernel_rfl))
 f137:=Tryz.func242.trans (congrArg T (by kernel_rfl))
 f151:=Tryz.func241.trans (congrArg T (by kernel_rfl))
 f152:=Tryz.func233.trans (congrArg T (by kernel_rfl))
 f161:=Tryz.func226.trans (congrArg T (by kernel_rfl))
 f197:=Tryz.func240.trans (congrArg T (by kernel_rfl))
 f217:=Tryz.func251.trans (congrArg T (by kernel_rfl))
 f224:=Tryz.func244.trans (congrArg T (by kernel_rfl))
 f225:=Tryz.func245.trans (congrArg T (by kernel_rfl))
 f227:=Tryz.func230.trans (congrArg T (by kernel_rfl))
 f228:=Tryz.func235.trans (congrArg T (by kernel_rfl))
 f231:=Tryz.func229.trans (congrArg T (by kernel_rfl))
 f233:=Tryz.func231.trans (congrArg T (by kernel_rfl))
 f235:=Tryz.func232.trans (congrArg T (by kernel_rfl))
 f260:=Tryz.func250.trans (congrArg T (by kernel_rfl))
 f266:=Tryz.func254.trans (congrArg T (by kernel_rfl))
 t0:=Tryz.underlying0
 a0:=Tryz.isAgg0
 z0:=Tryz.sizeOf0
 v0:=Tryz.zeroValue0
 t3:=Tryz.underlying3
 a3:=Tryz.isAgg3
 z3:=Tryz.sizeOf3
 v3:=Tryz.zeroValue3
 t4:=Tryz.underlying4
 a4:=Tryz.isAgg4
 z4:=Tryz.sizeOf4
 v4:=Tryz.zeroValue4
 t5:=Tryz.underlying5
 a5:=Tryz.isAgg5
 z5:=Tryz.sizeOf5
 v5:=Tryz.zeroValue5
 t9:=Tryz.underlying9
 a9:=Tryz.isAgg9
 z9:=Tryz.sizeOf9
 v9:=Tryz.zeroValue9
 t21:=Tryz.underlying21
 a21:=Tryz.isAgg21
 z21:=Tryz.sizeOf21
 v21:=Tryz.zeroValue21
 t46:=Tryz.underlying267
 a46:=Tryz.isAgg267
 z46:=Tryz.sizeOf267
 v46:=Tryz.zeroValue267
 t105:=Tryz.underlying324
 a105:=Tryz.isAgg324
 z105:=Tryz.sizeOf324
 v105:=Tryz.zeroValue324
 t116:=Tryz.underlying313
 a116:=Tryz.isAgg313
 z116:=Tryz.sizeOf313
 t117:=Tryz.underlying314
 a117:=Tryz.isAgg314
 z117:=Tryz.sizeOf314
 v117:=Tryz.zeroValue314
 t119:=Tryz.underlying332
 a119:=Tryz.isAgg332
 z119:=Tryz.sizeOf332
 t124:=Tryz.underlying317
 a124:=Tryz.isAgg317
 z124:=Tryz.sizeOf317
 v124:=Tryz.zeroValue317
 t138:=Tryz.underlying334
 a138:=Tryz.isAgg334
 z138:=Tryz.sizeOf334
 v138:=Tryz.zeroValue334
 t139:=Tryz.underlying335
 a139:=Tryz.isAgg335
 z139:=Tryz.sizeOf335
 v139:=Tryz.zeroValue335
 g3:=by kernel_rfl
 g4:=by kernel_rfl }
def Tryz.lays119_ren:Go.Shelf.Ren:=⟨fun | 119=>243 | n=>n,fun | 21=>21 | 4=>4 | n=>n,fun | n=>n⟩
theorem Tryz.lays119:Go.Proofs.Lays.n119 Tryz.prog Tryz.lays119_ren:={
 mixed:=by kernel_rfl
 f119:=Tryz.func243.trans (congrArg T (by kernel_rfl))
 t4:=Tryz.underlying4
 a4:=Tryz.isAgg4
 z4:=Tryz.sizeOf4
 v4:=Tryz.zeroValue4
 t21:=Tryz.underlying21
 a21:=Tryz.isAgg21
 z21:=Tryz.sizeOf21
 v21:=Tryz.zeroValue21 }
theorem Tryz.utf8_ValidRune (r:Int)(w:G):Calls Tryz.prog 243 #[J .i32 r] w fun e b=>e=QF (QC (Lib.validRune r))/\b=w:=Any.utf8_ValidRune Tryz.lays119 r w
def Tryz.lays213_ren:Go.Shelf.Ren:=⟨fun | 213=>184 | 265=>207 | n=>n,fun | 9=>9 | 3=>3 | n=>n,fun | n=>n⟩
def Tryz.lays106_ren:Go.Shelf.Ren:=⟨fun | 106=>156 | 213=>184 | 265=>207 | n=>n,fun | 9=>9 | 3=>3 | n=>n,fun | n=>n⟩
theorem Tryz.lays106:Go.Proofs.Lays.n106 Tryz.prog Tryz.lays106_ren:={
 mixed:=by kernel_rfl
 f106:=Tryz.func156.trans (congrArg T (by kernel_rfl))
 f213:=Tryz.func184.trans (congrArg T (by kernel_rfl))
 f265:=Tryz.func207.trans (congrArg T (by kernel_rfl))
 t3:=Tryz.underlying3
 a3:=Tryz.isAgg3
 z3:=Tryz.sizeOf3
 v3:=Tryz.zeroValue3
 t9:=Tryz.underlying9
 a9:=Tryz.isAgg9
 z9:=Tryz.sizeOf9
 v9:=Tryz.zeroValue9 }
open RowKit in
theorem Tryz.strings_Compare (a b:ByteArray)(w:G):Calls Tryz.prog 156 #[U a,U b] w fun e f=>e=QF (J I (Lib.compareBytes a.data.toList b.data.toList))/\f=w:=Any.strings_Compare Tryz.lays106 a b w
def Tryz.lays137_ren:Go.Shelf.Ren:=⟨fun | 137=>242 | 217=>251 | 266=>254 | n=>n,fun | 9=>9 | 5=>5 | 3=>3 | n=>n,fun | n=>n⟩
theorem Tryz.lays137:Go.Proofs.Lays.n137 Tryz.prog Tryz.lays137_ren:={
 mixed:=by kernel_rfl
 f137:=Tryz.func242.trans (congrArg T (by kernel_rfl))
 f217:=Tryz.func251.trans (congrArg T (by kernel_rfl))
 f266:=Tryz.func254.trans (congrArg T (by kernel_rfl))
 t3:=Tryz.underlying3
 a3:=Tryz.isAgg3
 z3:=Tryz.sizeOf3
 v3:=Tryz.zeroValue3
 t5:=Tryz.underlying5
 a5:=Tryz.isAgg5
 z5:=Tryz.sizeOf5
 v5:=Tryz.zeroValue5
 t9:=Tryz.underlying9
 a9:=Tryz.isAgg9
 z9:=Tryz.sizeOf9
 v9:=Tryz.zeroValue9 }
open RowKit in
theorem Tryz.strings_IndexByte (s:ByteArray)(c:Int)(w:G):Calls Tryz.prog 242 #[U s,J .u8 c] w fun e b=>e=QF (J I (Lib.indexByte s.data.toList c.toNat.toUInt8))/\b=w:=Any.strings_IndexByte Tryz.lays137 s c w
def Tryz.lays318_ren:Go.Shelf.Ren:=⟨fun | 318=>247 | n=>n,fun | 3=>3 | 4=>4 | n=>n,fun | n=>n⟩
def Tryz.laysM246_ren:Go.Shelf.Ren:=⟨fun | 246=>228 | 283=>236 | 284=>237 | 285=>238 | 286=>239 | 129=>205 | 317=>246 | 318=>247 | 319=>248 | 320=>249 | 337=>252 | 338=>253 | n=>n,fun | 2=>2 | 3=>3 | 9=>9 | 4=>4 | 171=>320 | 0=>0 | 53=>290 | 37=>22 | 5=>5 | 173=>322 | 212=>330 | 51=>288 | 20=>20 | 213=>331 | 46=>267 | 232=>336 | 233=>337 | n=>n,fun | 17=>2 | 18=>5 | 19=>6 | n=>n⟩
def Tryz.laysM243_ren:Go.Shelf.Ren:=⟨fun | 243=>225 | 246=>228 | 283=>236 | 284=>237 | 285=>238 | 286=>239 | 129=>205 | 317=>246 | 318=>247 | 319=>248 | 320=>249 | 337=>252 | 338=>253 | n=>n,fun | 3=>3 | 9=>9 | 2=>2 | 4=>4 | 171=>320 | 0=>0 | 53=>290 | 37=>22 | 5=>5 | 173=>322 | 212=>330 | 51=>288 | 20=>20 | 213=>331 | 46=>267 | 232=>336 | 233=>337 | n=>n,fun | 17=>2 | 18=>5 | 19=>6 | n=>n⟩
def Tryz.laysM171_ren:Go.Shelf.Ren:=⟨fun | 171=>219 | 243=>225 | 246=>228 | 283=>236 | 284=>237 | 285=>238 | 286=>239 | 129=>205 | 317=>246 | 318=>247 | 319=>248 | 320=>249 | 337=>252 | 338=>253 | n=>n,fun | 3=>3 | 9=>9 | 2=>2 | 4=>4 | 171=>320 | 0=>0 | 53=>290 | 37=>22 | 5=>5 | 173=>322 | 212=>330 | 51=>288 | 20=>20 | 213=>331 | 46=>267 | 232=>336 | 233=>337 | n=>n,fun | 17=>2 | 18=>5 | 19=>6 | n=>n⟩
theorem Tryz.laysM171:Go.Proofs.LaysM.n171 Tryz.prog Tryz.laysM171_ren:={
 mixed:=by kernel_rfl
 f129:=Tryz.func205.trans (congrArg T (by kernel_rfl))
 f171:=Tryz.func219.trans (congrArg T (by kernel_rfl))
 f243:=Tryz.func225.trans (congrArg T (by kernel_rfl))
 f246:=Tryz.func228.trans (congrArg T (by kernel_rfl))
 f283:=Tryz.func236.trans (congrArg T (by kernel_rfl))
 f284:=Tryz.func237.trans (congrArg T (by kernel_rfl))
 f285:=Tryz.func238.trans (congrArg T (by kernel_rfl))
 f286:=Tryz.func239.trans (congrArg T (by kernel_rfl))
 f317:=Tryz.func246.trans (congrArg T (by kernel_rfl))
 f318:=Tryz.func247.trans (congrArg T (by kernel_rfl))
 f319:=Tryz.func248.trans (congrArg T (by kernel_rfl))
 f320:=Tryz.func249.trans (congrArg T (by kernel_rfl))
 f337:=Tryz.func252.trans (congrArg T (by kernel_rfl))
 f338:=Tryz.func253.trans (congrArg T (by kernel_rfl))
 t0:=Tryz.underlying0
 a0:=Tryz.isAgg0
 z0:=Tryz.sizeOf0
 v0:=Tryz.zeroValue0
 t2:=Tryz.underlying2
 a2:=Tryz.isAgg2
 z2:=Tryz.sizeOf2
 v2:=Tryz.zeroValue2
 t3:=Tryz.underlying3
 a3:=Tryz.isAgg3
 z3:=Tryz.sizeOf3
 v3:=Tryz.zeroValue3
 t4:=Tryz.underlying4
 a4:=Tryz.isAgg4
 z4:=Tryz.sizeOf4
 v4:=Tryz.zeroValue4
 t5:=Tryz.underlying5
 a5:=Tryz.isAgg5
 z5:=Tryz.sizeOf5
 v5:=Tryz.zeroValue5
 t9:=Tryz.underlying9
 a9:=Tryz.isAgg9
 z9:=Tryz.sizeOf9
 v9:=Tryz.zeroValue9
 t20:=Tryz.underlying20
 a20:=Tryz.isAgg20
 z20:=Tryz.sizeOf20
 v20:=Tryz.zeroValue20
 t37:=Tryz.underlying22
 a37:=Tryz.isAgg22
 z37:=Tryz.sizeOf22
 v37:=Tryz.zeroValue22
 t46:=Tryz.underlying267
 a46:=Tryz.isAgg267
 z46:=Tryz.sizeOf267
 v46:=Tryz.zeroValue267
 t51:=Tryz.underlying288
 a51:=Tryz.isAgg288
 z51:=Tryz.sizeOf288
 v51:=Tryz.zeroValue288
 t53:=Tryz.underlying290
 a53:=Tryz.isAgg290
 z53:=Tryz.sizeOf290
 v53:=Tryz.zeroValue290
 t171:=Tryz.underlying320
 a171:=Tryz.isAgg320
 z171:=Tryz.sizeOf320
 v171:=Tryz.zeroValue320
 t173:=Tryz.underlying322
 a173:=Tryz.isAgg322
 z173:=Tryz.sizeOf322
 v173:=Tryz.zeroValue322
 t212:=Tryz.underlying330
 a212:=Tryz.isAgg330
 z212:=Tryz.sizeOf330
 v212:=Tryz.zeroValue330
 t213:=Tryz.underlying331
 a213:=Tryz.isAgg331
 z213:=Tryz.sizeOf331
 t232:=Tryz.underlying336
 a232:=Tryz.isAgg336
 z232:=Tryz.sizeOf336
 v232:=Tryz.zeroValue336
 t233:=Tryz.underlying337
 a233:=Tryz.isAgg337
 z233:=Tryz.sizeOf337
 v233:=Tryz.zeroValue337
 g17:=by kernel_rfl
 g18:=by kernel_rfl
 g19:=by kernel_rfl
 i0:=by kernel_rfl
 i2:=by kernel_rfl
 i3:=by kernel_rfl
 i4:=by kernel_rfl
 i5:=by kernel_rfl
 i9:=by kernel_rfl
 i20:=by kernel_rfl
 i37:=by kernel_rfl
 i46:=by kernel_rfl
 i51:=by kernel_rfl
 i53:=by kernel_rfl
 i171:=by kernel_rfl
 i173:=by kernel_rfl
 i212:=by kernel_rfl
 i232:=by kernel_rfl
 i233:=by kernel_rfl
 m17:=by kernel_rfl
 m18:=by kernel_rfl
 m19:=by kernel_rfl }
open RowKit Go.Sort Go.Lib in
theorem Tryz.strconv_Itoa (n:Int)(f:-9223372036854775808<=n)(h1:n<=9223372036854775807)(w:G)(b:Lib.TabIs Tryz.prog w "internal/strconv.uint64pow10" .u64 Lib.pow10Tab):Calls Tryz.prog 219 #[J I n] w fun e g=>e=QF (U ⟨(Lib.itoa n).toArray⟩)/\∃ k os,g=grow (w.drewN k) os:=Any.strconv_Itoa Tryz.laysM171 n f h1 w b
def Tryz.lays152_ren:Go.Shelf.Ren:=⟨fun | 152=>233 | 137=>242 | 119=>243 | 224=>244 | 225=>245 | 217=>251 | 266=>254 | n=>n,fun | 9=>9 | 21=>21 | 3=>3 | 4=>4 | 5=>5 | 0=>0 | 46=>267 | n=>n,fun | n=>n⟩
theorem Tryz.lays152:Go.Proofs.Lays.n152 Tryz.prog Tryz.lays152_ren:={
 mixed:=by kernel_rfl
 f119:=Tryz.func243.trans (congrArg T (by kernel_rfl))
 f137:=Tryz.func242.trans (congrArg T (by kernel_rfl))
 f152:=Tryz.func233.trans (congrArg T (by kernel_rfl))
 f217:=Tryz.func251.trans (congrArg T (by kernel_rfl))
 f224:=Tryz.func244.trans (congrArg T (by kernel_rfl))
 f225:=Tryz.func245.trans (congrArg T (by kernel_rfl))
 f266:=Tryz.func254.trans (congrArg T (by kernel_rfl))
 t0:=Tryz.underlying0
 a0:=Tryz.isAgg0
 z0:=Tryz.sizeOf0
 v0:=Tryz.zeroValue0
 t3:=Tryz.underlying3
 a3:=Tryz.isAgg3
 z3:=Tryz.sizeOf3
 v3:=Tryz.zeroValue3
 t4:=Tryz.underlying4
 a4:=Tryz.isAgg4
 z4:=Tryz.sizeOf4
 v4:=Tryz.zeroValue4
 t5:=Tryz.underlying5
 a5:=Tryz.isAgg5
 z5:=Tryz.sizeOf5
 v5:=Tryz.zeroValue5
 t9:=Tryz.underlying9
 a9:=Tryz.isAgg9
 z9:=Tryz.sizeOf9
 v9:=Tryz.zeroValue9
 t21:=Tryz.underlying21
 a21:=Tryz.isAgg21
 z21:=Tryz.sizeOf21
 v21:=Tryz.zeroValue21
 t46:=Tryz.underlying267
 a46:=Tryz.isAgg267
 z46:=Tryz.sizeOf267
 v46:=Tryz.zeroValue267 }
open RowKit Go.Lib in
theorem Tryz.strings_IndexRune_ascii (s:ByteArray)(r:Int)(w:G)(b:0<=r)(h1:r<128):Calls Tryz.prog 233 #[U s,J .i32 r] w fun e f=>e=QF (J I (Lib.indexByte s.data.toList r.toNat.toUInt8))/\f=w:=Any.strings_IndexRune_ascii Tryz.lays152 s r w b h1
def Tryz.lays226_ren:Go.Shelf.Ren:=⟨fun | 226=>234 | n=>n,fun | 3=>3 | 4=>4 | n=>n,fun | n=>n⟩
theorem Tryz.lays226:Go.Proofs.Lays.n226 Tryz.prog Tryz.lays226_ren:={
 mixed:=by kernel_rfl
 f226:=Tryz.func234.trans (congrArg T (by kernel_rfl))
 t3:=Tryz.underlying3
 a3:=Tryz.isAgg3
 z3:=Tryz.sizeOf3
 v3:=Tryz.zeroValue3
 t4:=Tryz.underlying4
 a4:=Tryz.isAgg4
 z4:=Tryz.sizeOf4
 v4:=Tryz.zeroValue4 }
open RowKit Go.Lib in
theorem Tryz.strings_shouldUseASCIISet (n:Int)(w:G):Calls Tryz.prog 234 #[J I n] w fun e b=>e=QF (QC (decide (8<n)))/\b=w:=Any.strings_shouldUseASCIISet Tryz.lays226 n w
def Tryz.lays153_ren:Go.Shelf.Ren:=⟨fun | 153=>227 | 152=>233 | 226=>234 | 227=>230 | 228=>235 | 137=>242 | 119=>243 | 224=>244 | 225=>245 | 217=>251 | 266=>254 | n=>n,fun | 9=>9 | 3=>3 | 4=>4 | 5=>5 | 21=>21 | 117=>314 | 116=>313 | 0=>0 | 46=>267 | 124=>317 | n=>n,fun | n=>n⟩
theorem Tryz.lays153:Go.Proofs.Lays.n153 Tryz.prog Tryz.lays153_ren:={
 mixed:=by kernel_rfl
 f119:=Tryz.func243.trans (congrArg T (by kernel_rfl))
 f137:=Tryz.func242.trans (congrArg T (by kernel_rfl))
 f152:=Tryz.func233.trans (congrArg T (by kernel_rfl))
 f153:=Tryz.func227.trans (congrArg T (by kernel_rfl))
 f217:=Tryz.func251.trans (congrArg T (by kernel_rfl))
 f224:=Tryz.func244.trans (congrArg T (by kernel_rfl))
 f225:=Tryz.func245.trans (congrArg T (by kernel_rfl))
 f226:=Tryz.func234.trans (congrArg T (by kernel_rfl))
 f227:=Tryz.func230.trans (congrArg T (by kernel_rfl))
 f228:=Tryz.func235.trans (congrArg T (by kernel_rfl))
 f266:=Tryz.func254.trans (congrArg T (by kernel_rfl))
 t0:=Tryz.underlying0
 a0:=Tryz.isAgg0
 z0:=Tryz.sizeOf0
 v0:=Tryz.zeroValue0
 t3:=Tryz.underlying3
 a3:=Tryz.isAgg3
 z3:=Tryz.sizeOf3
 v3:=Tryz.zeroValue3
 t4:=Tryz.underlying4
 a4:=Tryz.isAgg4
 z4:=Tryz.sizeOf4
 v4:=Tryz.zeroValue4
 t5:=Tryz.underlying5
 a5:=Tryz.isAgg5
 z5:=Tryz.sizeOf5
 v5:=Tryz.zeroValue5
 t9:=Tryz.underlying9
 a9:=Tryz.isAgg9
 z9:=Tryz.sizeOf9
 v9:=Tryz.zeroValue9
 t21:=Tryz.underlying21
 a21:=Tryz.isAgg21
 z21:=Tryz.sizeOf21
 v21:=Tryz.zeroValue21
 t46:=Tryz.underlying267
 a46:=Tryz.isAgg267
 z46:=Tryz.sizeOf267
 v46:=Tryz.zeroValue267
 t116:=Tryz.underlying313
 a116:=Tryz.isAgg313
 z116:=Tryz.sizeOf313
 t117:=Tryz.underlying314
 a117:=Tryz.isAgg314
 z117:=Tryz.sizeOf314
 v117:=Tryz.zeroValue314
 t124:=Tryz.underlying317
 a124:=Tryz.isAgg317
 z124:=Tryz.sizeOf317
 v124:=Tryz.zeroValue317 }
open RowKit Go.Lib in
theorem Tryz.strings_IndexAny_long (h:∀ w,(zeroValue 313).run Tryz.prog w=.ok (.agg (Array.replicate 256 (QC false))) w)(s f:ByteArray)(w:G)(h2:2<=f.size)(l:8<s.size)(m:s.size<4294967281)(i:f.size<4294967281)(g:∀ (j:Nat) b,f.data.toList[j]?=T b->b.toNat<128):Calls Tryz.prog 227 #[U s,U f] w fun e n=>e=QF (J I (Lib.indexAny s.data.toList f.data.toList))/\n=((w.alloc (.cells (Lib.setCells f.data.toList) 313)).alloc (.cells (Lib.setCells f.data.toList) 313)):=Any.strings_IndexAny_long Tryz.lays153 h (by kernel_rfl) s f w h2 l m i g
end Go.Proofs
