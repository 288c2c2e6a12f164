import Derived.Test.YtpmnbjkjpnclaaaGreatDoorLH
import Derived.Test.YtpmnbjkjpnclaaaGreatDoorMT
import Derived.Shelf.SlIter.Nil
import Derived.Ground.GgzProg
import Derived.Test.YtpmnbjkjpnclaaaGreatDoorLK
set_option maxRecDepth 100000
set_option maxHeartbeats 4000000
set_option linter.unusedSimpArgs false
open Go renaming Addr.mk->N,Value.slice->Y,Obj.cells->J,IntKind.i64->I,World->M,Ending.returned->ZD,World.heap->U,World.alloc->A,Proofs.Tryz.prog->Pg
open Option renaming none->Z,some->T
open Bool renaming true->ZF
open Array renaming size->Q
namespace Go.Proofs.YtpmnbjkjpnclaaaGreatDoor.Vp
open RowKit Go.Sort
def kw (x:aj):Int:=if x.H=2 then 4 else x.E
def kC (x:aj):ByteArray:=if x.H=2 then x.e else x.y
def txt (x:aj):ByteArray:=ep (kw x) (kC x) 0
theorem zj (c:Int)(t:ByteArray)(n:Nat):(ep c t n).size<=2002:=by
 unfold ep;split;{rename_i h;obtain⟨k,rfl⟩:=AT h.1;have:=wA (k:=k) (by omega);simp only[KO,Int.toNat_natCast];rw[this];have h2:(⟨#[58]⟩:ByteArray).size=1:=rfl;rw[h2];omega};{show 0<=2002;omega}
theorem BJ (x:aj):(txt x).size<=maxLen:=by have:=zj (kw x) (kC x) 0;unfold txt maxLen;omega
def fg (acc:List (List UInt8))(f:Nat->aj):Nat->List (List UInt8)
 |0=>acc
 |k+1=>cY (fg acc f k) (txt (f k)).toList
def cJ (F:Nat->Acc):Nat->List (List UInt8)
 |0=>[]
 |k+1=>if bK (F k).f (F k).n=ZF then fg (cJ F k) (F k).f (F k).n else cJ F k
def dT (F:Nat->Acc)(m:Nat):List (List UInt8):=if 50<m then [] else cJ F m
theorem BP {acc:List (List UInt8)}(h:acc.Pairwise (· < ·))(f:Nat->aj)(k:Nat):(fg acc f k).Pairwise (· < ·):=by
 induction k with
 |zero=>exact h
 |succ k b=>exact zE b _
theorem tB (acc:List (List UInt8))(f:Nat->aj)(k:Nat):(fg acc f k).length<=acc.length+k:=by
 induction k with
 |zero=>exact nX _
 |succ k ih =>have:=zG (fg acc f k) (txt (f k)).toList;rw[fg];omega
theorem BR (F:Nat->Acc)(k:Nat):(cJ F k).Pairwise (· < ·):=by
 induction k with
 |zero=>exact List.Pairwise.nil
 |succ k b =>
  rw[cJ];split;{exact BP b _ _};{exact b}
theorem tC (F:Nat->Acc)(k:Nat):(cJ F k).length<=k*400:=by
 induction k with
 |zero=>exact nX _
 |succ k b =>
  rw[cJ];split;{rename_i h;have h1:=fx h;have h2:=tB (cJ F k) (F k).f (F k).n;omega};{exact nD b (Nat.mul_le_mul_right 400 (JH k))}
theorem zk (F:Nat->Acc)(m:Nat):(dT F m).length<=1048576:=by
 unfold dT;split;{exact IH _};{have:=tC F m;omega}
def AccE (w:M)(b m:Nat)(F:Nat->Acc):Prop:=b<Q (U w)/\∀i,i<m->∃a0 c0,w.cell? (N b i Z)=T (Y a0 (F i).n c0)/\(F i).n<=c0/\SlDeed w a0 (F i).n (F i).f
theorem AccE.aa {w g:M}{b m B:Nat}{F:Nat->Acc}(h:AccE w b m F)(hb:Below B w g)(f:Q (U w)<=B):AccE g b m F:=by refine⟨lj h.1 hb.size,λi hi=>?_⟩;obtain⟨a0,c0,h1,j,h2⟩:=h.2 i hi;exact⟨a0,c0,(hb.cell (p:=(N b i Z)) (lj h.1 f)).trans h1,j,h2.aa hb f⟩
theorem BU {x:aj}(h:x.H=2):ep 4 x.e 0=txt x:=by simp[txt,kw,kC,h]
theorem BV {x:aj}(h:¬ x.H=2):ep x.E x.y 0=txt x:=by simp[txt,kw,kC,h]
theorem qX (b m cap:Nat)(F:Nat->Acc)(w:M)(hm:(m:Int)<=1048576)(hv:AccE w b m F)(L:∀i,i<m->o6 (F i))(O:∀i,i<m->mL (F i)):Calls Pg 10 #[Y (T (N b 0 Z)) m cap] w λe w'=>∃t g o x:Nat,e=ZD (Y (T (N t g Z)) o x)/\o=(dT F m).length/\RowStr w' t g o (nmF (dT F m))/\Below (Q (U w)) w w':=by
 have HV:=ae hv;have HM:=ae L;have HZ:=ae O;clear hv L O;obtain⟨ZL,ZK⟩:∃ZL,ZL=dT F m:=⟨_,rfl⟩
 rw[<-ZK];have ZJ:=ae (show ZL=if 50<m then [] else cJ F m from ZK);clear ZK;have X:=ae (show RowStr (A w (J #[] 9)) (Q (U w)) 0 0 (nmF []) from⟨by simp,λi hi=>absurd hi (JI _)⟩);have V:=ae ((BS w).alloc ly (J #[] 9));go_enter Tryz.func10,Tryz.ntmps10;by_cases ZQ:50<m
 ·obtain rfl:ZL=[]:=by rw[ZJ.out,nL ZQ]
  go_wp2;go_ret;exact⟨Q (U w),0,0,0,rfl,rfl,X.out,V.out⟩
 obtain rfl:ZL=cJ F m:=by rw[ZJ.out,eT ZQ]
 clear ZJ;go_wp2;generalize A w (J #[] 9)=W at X V ⊢;go_loopw [3,4] (λv i wr=>∃(k t g o x:Nat),k<=m/\i=.int I k/\v=Y (T (N t g Z)) o x/\Hid (o=(cJ F k).length)/\o<=x/\Hid (RowStr wr t g o (nmF (cJ F k)))/\Hid (Below (Q (U w)) w wr)) (λ_ i _=>m - (intOf i).toNat);case atStart=>exact⟨0,Q (U w),0,0,0,by omega,rfl,rfl,rfl,by omega,X.out,V.out⟩
 case round =>
  obtain⟨k,t,g,o,x,hk,rfl,rfl,C,R,HK,K⟩:=hrel;by_cases E:k<m
  ·obtain⟨a0,c9,c0,-,P⟩:=(HV.out.aa K.out ly).2 k E;have R0:=ae P;have hf1:=(HM.out k E).1;have hlen:=tC F k;have hm':o<=k*400:=by have:=C.out;omega
   have bl:b<Q (U wr):=lj HV.out.1 K.out.size;have ZM:=ae (show cJ F (k+1)=if bK (F k).f (F k).n=ZF then fg (cJ F k) (F k).f (F k).n else cJ F k from rfl);clear P;go_wp2_with fail;refine(rR a0 (F k).n c9 (F k).f _ (by omega) R0.out (HM.out k E).2 (HZ.out k E).2).mono ?_;rintro e w1 ⟨rfl,l⟩;have D1:=ae l;have S:=ae (K.out.trans (l.mono K.out.size));have K1:=ae (HK.out.aa l ly);have c1:=(l.cell (p:=(N b k Z)) bl).trans c0;have R1:=ae (R0.out.aa l ly);have ex:b<Q (U w1):=lj bl l.size;have HO:=ae (λh:bK (F k).f (F k).n=ZF=>fx h);clear l c0;generalize bK (F k).f (F k).n=r at ZM HO ⊢;cases r with
   |false =>go_wp2;exact⟨⟨k+1,t,g,o,x,by omega,by go_num,rfl,by rw[ZM.out];exact C.out,R,by rw[ZM.out];exact K1.out,S.out⟩,by simp[intOf];omega⟩
   |true =>
    obtain⟨hn1,hn4,-⟩:=HO.out rfl;obtain⟨bd,offd,rfl,ZO⟩:=R1.out.resolve_left (by omega);have HR:=ae ZO;clear ZO R0 R1 HO;have C1:=ae c1;go_wp2;clear c1;go_loopw [3,5] (λv i w2=>∃(j G q u c2:Nat),j<=(F k).n/\i=.int I j/\v=Y (T (N G q Z)) u c2/\Hid (u=(fg (cJ F k) (F k).f j).length)/\u<=c2/\Hid (RowStr w2 G q u (nmF (fg (cJ F k) (F k).f j)))/\Hid (Below (Q (U w1)) w1 w2)) (λ_ i _=>(F k).n - (intOf i).toNat);case atStart=>exact⟨0,t,g,o,x,by omega,rfl,rfl,C.out,R,K1.out,cM _ _⟩
    case round =>
     obtain⟨j,G,q,u,c2,hj,rfl,rfl,D,aq,H,s⟩:=hrel;have d0:=(s.out.cell (p:=(N b k Z)) ex).trans C1.out;by_cases fd:j<(F k).n
     ·obtain⟨p0,p1,p2,p3,⟨a2,cap2,p4,q4⟩,⟨a3,cap3,p5,q5⟩⟩:=(HR.out.aa s.out ly).2 j fd;clear q4 q5;have ZN:(u:Int)<=1048576:=by have h1:=D.out;have h2:=tB (cJ F k) (F k).f j;omega
      by_cases h2:((F k).f j).H=2;{go_wp2_with fail;refine(li 4 ((F k).f j).e Z 0 0 _).mono ?_;rintro e w3 ⟨rfl,l⟩;rw[BU h2];have ZR:Hid (Below (Q (U wr)) wr w3):=(((BS wr).alloc ly _).alloc (by simp) _).trans (l.mono (by simp;omega));have K3:=ae (H.out.aa ZR.out ly);have ZP:=ae (s.out.trans (ZR.out.mono s.out.size));clear l ZR p0 p1 p2 p3 p4 p5 d0;go_wp2_with fail;refine(pS G q u c2 (fg (cJ F k) (F k).f j) (txt ((F k).f j)) _ D.out ZN (by omega) K3.out).mono ?_;rintro e w4 ⟨ZI,B,m4,c4,rfl,y,bt,z,l⟩;have M4:=ae y;have R4:=ae z;have B4:=ae (ZP.out.trans (l.mono ZP.out.size));clear y z l;go_wp2;exact⟨⟨j+1,ZI,B,m4,c4,by omega,by go_num,rfl,M4.out,by omega,R4.out,B4.out⟩,by simp[intOf];omega⟩};{go_wp2_with fail;refine(li ((F k).f j).E ((F k).f j).y Z 0 0 _).mono ?_;rintro e w3 ⟨rfl,l⟩;rw[BV h2];have ZR:Hid (Below (Q (U wr)) wr w3):=(((BS wr).alloc ly _).alloc (by simp) _).trans (l.mono (by simp;omega));have K3:=ae (H.out.aa ZR.out ly);have ZP:=ae (s.out.trans (ZR.out.mono s.out.size));clear l ZR p0 p1 p2 p3 p4 p5 d0;go_wp2_with fail;refine(pS G q u c2 (fg (cJ F k) (F k).f j) (txt ((F k).f j)) _ D.out ZN (by omega) K3.out).mono ?_;rintro e w4 ⟨ZI,B,m4,c4,rfl,y,bt,z,l⟩;have M4:=ae y;have R4:=ae z;have B4:=ae (ZP.out.trans (l.mono ZP.out.size));clear y z l;go_wp2;exact⟨⟨j+1,ZI,B,m4,c4,by omega,by go_num,rfl,M4.out,by omega,R4.out,B4.out⟩,by simp[intOf];omega⟩}
     ·obtain rfl:j=(F k).n:=by omega
      go_wp2;exact⟨⟨k+1,G,q,u,c2,by omega,by go_num,rfl,by rw[ZM.out];exact D.out,aq,by rw[ZM.out];exact H.out,S.out.trans (s.out.mono S.out.size)⟩,by simp[intOf];omega⟩
  ·obtain rfl:k=m:=by omega
   go_wp2;go_ret;exact⟨t,g,o,x,rfl,C.out,HK.out,K.out⟩
end Go.Proofs.YtpmnbjkjpnclaaaGreatDoor.Vp
namespace Go.Proofs
open RowKit Go.Maps Go.Sort Go.Shelf
def Tryz.keys102_ren:Go.Shelf.Ren:=⟨λ|7=>102|10=>154|n=>n,λ|23=>82|26=>9|3=>155|28=>158|0=>0|27=>157|33=>112|4=>4|n=>n,λ|n=>n⟩
theorem Tryz.keys102:Go.Proofs.SlLaysZ.n7 Pg Tryz.keys102_ren:={
 mixed:=by kernel_rfl
 f7:=⟨Tryz.f102.name,by decide,Tryz.func102.trans (congrArg T (by kernel_rfl))⟩
 f10:=⟨Tryz.f154.name,by decide,Tryz.func154.trans (congrArg T (by kernel_rfl))⟩
 t0:=Tryz.underlying0
 a0:=Tryz.isAgg0
 z0:=Tryz.sizeOf0
 v0:=Tryz.zeroValue0
 t4:=Tryz.underlying4
 a4:=Tryz.isAgg4
 z4:=Tryz.sizeOf4
 v4:=Tryz.zeroValue4
 t23:=Tryz.underlying82
 a23:=Tryz.isAgg82
 z23:=Tryz.sizeOf82
 v23:=Tryz.zeroValue82
 t26:=Tryz.underlying9
 a26:=Tryz.isAgg9
 z26:=Tryz.sizeOf9
 v26:=Tryz.zeroValue9
 t27:=Tryz.underlying157
 a27:=Tryz.isAgg157
 z27:=Tryz.sizeOf157
 v27:=Tryz.zeroValue157
 t28:=Tryz.underlying158
 a28:=Tryz.isAgg158
 z28:=Tryz.sizeOf158
 v28:=Tryz.zeroValue158
 t33:=Tryz.underlying112
 a33:=Tryz.isAgg112
 z33:=Tryz.sizeOf112
 v33:=Tryz.zeroValue112 }
def Tryz.sorted101_ren:Go.Shelf.Ren:=⟨λ|6=>101|8=>152|9=>153|11=>206|13=>208|12=>207|23=>262|24=>263|14=>253|15=>254|16=>255|17=>256|18=>257|19=>258|20=>259|21=>260|22=>261|25=>285|26=>286|27=>287|28=>288|29=>289|30=>290|31=>303|n=>n,λ|26=>9|28=>158|24=>30|0=>0|3=>3|37=>260|48=>309|50=>203|4=>4|40=>329|39=>328|45=>250|5=>5|9=>9|51=>356|55=>360|57=>367|58=>33|33=>112|n=>n,λ|n=>n⟩
theorem Tryz.sorted101:Go.Proofs.SlLaysZ.n6 Pg Tryz.sorted101_ren:={
 mixed:=by kernel_rfl
 f6:=⟨Tryz.f101.name,by decide,Tryz.func101.trans (congrArg T (by kernel_rfl))⟩
 f8:=⟨Tryz.f152.name,by decide,Tryz.func152.trans (congrArg T (by kernel_rfl))⟩
 f11:=⟨Tryz.f206.name,by decide,Tryz.func206.trans (congrArg T (by kernel_rfl))⟩
 t0:=Tryz.underlying0
 a0:=Tryz.isAgg0
 z0:=Tryz.sizeOf0
 v0:=Tryz.zeroValue0
 t24:=Tryz.underlying30
 a24:=Tryz.isAgg30
 z24:=Tryz.sizeOf30
 v24:=Tryz.zeroValue30
 t26:=Tryz.underlying9
 a26:=Tryz.isAgg9
 z26:=Tryz.sizeOf9
 v26:=Tryz.zeroValue9
 t28:=Tryz.underlying158
 a28:=Tryz.isAgg158
 z28:=Tryz.sizeOf158
 v28:=Tryz.zeroValue158
 i26:=by kernel_rfl }
def Tryz.sort153_ren:Go.Shelf.Ren:=⟨λ|6=>153|8=>208|9=>207|19=>262|20=>263|21=>253|22=>254|23=>255|24=>256|25=>257|26=>258|27=>259|28=>260|29=>261|36=>285|31=>286|32=>287|37=>288|38=>289|39=>290|41=>303|n=>n,λ|27=>30|29=>9|3=>3|32=>260|26=>30|0=>0|44=>309|46=>203|4=>4|36=>329|35=>328|41=>250|5=>5|9=>9|53=>356|57=>360|63=>367|64=>33|n=>n,λ|n=>n⟩
theorem Tryz.sort153:Go.Proofs.SlLaysM.n6 Pg Tryz.sort153_ren:={
 mixed:=by kernel_rfl
 f6:=⟨Tryz.f153.name,by decide,Tryz.func153.trans (congrArg T (by kernel_rfl))⟩
 f8:=Tryz.func208.trans (congrArg T (by kernel_rfl))
 f9:=⟨Tryz.f207.name,by decide,Tryz.func207.trans (congrArg T (by kernel_rfl))⟩
 f19:=Tryz.func262.trans (congrArg T (by kernel_rfl))
 f20:=Tryz.func263.trans (congrArg T (by kernel_rfl))
 f21:=⟨Tryz.f253.name,by decide,Tryz.func253.trans (congrArg T (by kernel_rfl))⟩
 f22:=⟨Tryz.f254.name,by decide,Tryz.func254.trans (congrArg T (by kernel_rfl))⟩
 f23:=⟨Tryz.f255.name,by decide,Tryz.func255.trans (congrArg T (by kernel_rfl))⟩
 f24:=⟨Tryz.f256.name,by decide,Tryz.func256.trans (congrArg T (by kernel_rfl))⟩
 f25:=⟨Tryz.f257.name,by decide,Tryz.func257.trans (congrArg T (by kernel_rfl))⟩
 f26:=⟨Tryz.f258.name,by decide,Tryz.func258.trans (congrArg T (by kernel_rfl))⟩
 f27:=⟨Tryz.f259.name,by decide,Tryz.func259.trans (congrArg T (by kernel_rfl))⟩
 f28:=⟨Tryz.f260.name,by decide,Tryz.func260.trans (congrArg T (by kernel_rfl))⟩
 f29:=⟨Tryz.f261.name,by decide,Tryz.func261.trans (congrArg T (by kernel_rfl))⟩
 f31:=Tryz.func286.trans (congrArg T (by kernel_rfl))
 f32:=Tryz.func287.trans (congrArg T (by kernel_rfl))
 f36:=⟨Tryz.f285.name,by decide,Tryz.func285.trans (congrArg T (by kernel_rfl))⟩
 f37:=⟨Tryz.f288.name,by decide,Tryz.func288.trans (congrArg T (by kernel_rfl))⟩
 f38:=⟨Tryz.f289.name,by decide,Tryz.func289.trans (congrArg T (by kernel_rfl))⟩
 f39:=⟨Tryz.f290.name,by decide,Tryz.func290.trans (congrArg T (by kernel_rfl))⟩
 f41:=⟨Tryz.f303.name,by decide,Tryz.func303.trans (congrArg T (by kernel_rfl))⟩
 t0:=Tryz.underlying0
 a0:=Tryz.isAgg0
 z0:=Tryz.sizeOf0
 v0:=Tryz.zeroValue0
 t3:=Tryz.underlying3
 a3:=Tryz.isAgg3
 z3:=Tryz.sizeOf3
 v3:=Tryz.zeroValue3
 t4:=Tryz.underlying4
 a4:=Tryz.isAgg4
 z4:=Tryz.sizeOf4
 v4:=Tryz.zeroValue4
 t5:=Tryz.underlying5
 a5:=Tryz.isAgg5
 z5:=Tryz.sizeOf5
 v5:=Tryz.zeroValue5
 t9:=Tryz.underlying9
 a9:=Tryz.isAgg9
 z9:=Tryz.sizeOf9
 v9:=Tryz.zeroValue9
 t26:=Tryz.underlying30
 a26:=Tryz.isAgg30
 z26:=Tryz.sizeOf30
 v26:=Tryz.zeroValue30
 t27:=Tryz.underlying30
 a27:=Tryz.isAgg30
 z27:=Tryz.sizeOf30
 v27:=Tryz.zeroValue30
 t29:=Tryz.underlying9
 a29:=Tryz.isAgg9
 z29:=Tryz.sizeOf9
 v29:=Tryz.zeroValue9
 t32:=Tryz.underlying260
 a32:=Tryz.isAgg260
 z32:=Tryz.sizeOf260
 v32:=Tryz.zeroValue260
 t35:=Tryz.underlying328
 a35:=Tryz.isAgg328
 z35:=Tryz.sizeOf328
 v35:=Tryz.zeroValue328
 t36:=Tryz.underlying329
 a36:=Tryz.isAgg329
 z36:=Tryz.sizeOf329
 v36:=Tryz.zeroValue329
 t41:=Tryz.underlying250
 a41:=Tryz.isAgg250
 z41:=Tryz.sizeOf250
 v41:=Tryz.zeroValue250
 t44:=Tryz.underlying309
 a44:=Tryz.isAgg309
 z44:=Tryz.sizeOf309
 v44:=Tryz.zeroValue309
 t46:=Tryz.underlying203
 a46:=Tryz.isAgg203
 z46:=Tryz.sizeOf203
 v46:=Tryz.zeroValue203
 t53:=Tryz.underlying356
 a53:=Tryz.isAgg356
 z53:=Tryz.sizeOf356
 v53:=Tryz.zeroValue356
 t57:=Tryz.underlying360
 a57:=Tryz.isAgg360
 z57:=Tryz.sizeOf360
 v57:=Tryz.zeroValue360
 t63:=Tryz.underlying367
 a63:=Tryz.isAgg367
 z63:=Tryz.sizeOf367
 v63:=Tryz.zeroValue367
 t64:=Tryz.underlying33
 a64:=Tryz.isAgg33
 z64:=Tryz.sizeOf33
 v64:=Tryz.zeroValue33 }
theorem Tryz.sorts101 (m:Nat):AnyZ.SortsIn Pg Tryz.sorted101_ren Fence.wide m :=
  ⟨λblk off cap g W hH b f=>callsIn_wide.2 (AnyM.slices_Sort_string Tryz.sort153 blk off cap g W hH b f),
   λp cap W=>callsIn_wide.2 (AnyM.slices_Sort_string_none Tryz.sort153 p cap W)⟩
theorem Tryz.maps_Keys_102 (b:Option Nat)(W:M):CallsIn Fence.wide 5 Pg 102 #[.map b] W λe f=>e=ZD (.func (.func 154) #[] #[.pointer (T (N (Q (U W)) 0 Z))])/\f=A W (J #[.map b] 82) :=
 AnyZ.keys_in Tryz.keys102 Fence.wide 5 trivial rfl b W
theorem Tryz.slices_Sorted_keys_101_102 {H:Type}(b nn:Nat)(f:DataW H)(R:Value->Option (DataW H × List MemPlace))(w:M)(h:w.ownsMap Pg 9 R b nn f)(m:Maps.size f<=maxLen)(i:Maps.size f*16<=140737488355328):CallsIn Fence.wide 5 Pg 101 #[.func (.func 154) #[] #[.pointer (T (N (Q (U w)) 0 Z))]] (A w (J #[.map (T b)] 82)) λe o=>∃(v:Value) (g:List (List UInt8)),e=ZD v/\g.Perm (strKeys f) /\
   o.ownsRow (A w (J #[.map (T b)] 82)).heap.size 9 1 v g.length ((g.mergeSort (λx y=>decide (x<=y))).map encStr)/\(v=Y Z 0 0 ↔ g=[])/\Below (A w (J #[.map (T b)] 82)).heap.size (A w (J #[.map (T b)] 82)) o:=by
 have n:=h.lt;have l:SeqGives Fence.wide 2 Pg 154 #[.pointer (T (N (Q (U w)) 0 Z))] encStr (λg=>g.Perm (strKeys f)) (Maps.size f) (A w (J #[.map (T b)] 82)) :=
  AnyZ.keys_gives (ρ:=Tryz.keys102_ren) { Tryz.keys102 with } Fence.wide _ trivial rfl (by omega) (Q (U w)) b nn f _ (by simp) (by simp) (by
   obtain⟨q,j,hb,p,r,s⟩:=h
   exact⟨q,j,(Below.heap_alloc _ _ b n).trans hb,p,r,s⟩)
 exact AnyZ.sorted_in Tryz.sorted101 Fence.wide 5 trivial trivial trivial trivial rfl (by omega) (Tryz.sorts101 _) (enters_of Tryz.func153 (by kernel_rfl) rfl) 154 #[.pointer (T (N (Q (U w)) 0 Z))] trivial (enters_of Tryz.func154 (by kernel_rfl) rfl) _ _ m i _ l
end Go.Proofs
namespace Go.Proofs.YtpmnbjkjpnclaaaGreatDoor.Vp
open RowKit Go.Maps Go.Sort Go.Shelf
def SetIs (w:M)(b n:Nat)(L:List (List UInt8)):Prop :=
 ∃D:DataW Unit,w.ownsMap Pg 9 unitElem b n D/\∀x,x∈L ↔ Maps.has D (.string x)=ZF
theorem zm (w:M):SetIs (w.alloc (.map #[] 0)) (Q (U w)) 0 [] :=
 ⟨_,TG w Pg 9 unitElem,λx=>by simp[Maps.has]⟩
theorem SetIs.grown {w g:M}{f n:Nat}{L:List (List UInt8)}(h:SetIs w f n L){B:Nat}(hb:Below B w g)(m:f<B):SetIs g f n L:=by obtain⟨D,⟨o,b,h1,i,j,l⟩,h2⟩:=h;exact⟨D,⟨o,b,(hb.block f m).trans h1,i,j,l⟩,h2⟩
theorem SetIs.lt {w:M}{b n:Nat}{L:List (List UInt8)}(h:SetIs w b n L):b<Q (U w):=by obtain⟨D,h1,-⟩:=h;exact h1.lt
theorem Cb {D:DataW Unit}{L:List (List UInt8)}{x:List UInt8}(b:Maps.IsMap D)(h:∀z,z∈L ↔ Maps.has D (.string z)=ZF)(d:DataW Unit):∀z,z∈cY L x ↔ Maps.has (D.put (.string x) d) (.string z)=ZF:=by
 intro z;rw[jN];by_cases e:z=x;{subst e;rw[Maps.has_put_same b (by simp[WideAt.IsKeyLit])];simp};{rw[TF (by simpa using e),<-h z];simp[e]}
theorem Eg (i n:Nat)(L:List (List UInt8))(x:ByteArray)(w:M)(hn:(n:Int)<=1048576)(t:x.size<=maxLen)(h:SetIs w i n L):Calls Pg 43 #[.map (T i),.string x] w λe o=>e=ZD (.tuple #[])/\SetIs o i (n+1) (cY L x.toList)/\w.grownBy o (T i):=by obtain⟨D,f,m⟩:=h;have q:=ae f;have r:=ae (Cb f.isMap (x:=x.toList) m (.agg []));clear m f;have j:=LP (P:=Pg) (k:=9) IN t;have l:=ae j;clear j;go_enter Tryz.func43,Tryz.ntmps43;go_wp2_with (at_mapUpdate;refine RP _ rfl _ _ _ 82 rfl 9 155 (MZ IN) Tryz.underlying82 unitElem i n D rfl q (by unfold maxLen;omega) _ _ _ rfl rfl l _ [] unitElem_mk ?_;intro w1 g b;have p:=ae g;have s:=ae b;clear g b);go_end0;refine⟨rfl,⟨_,p,?_⟩,s⟩;have:=r.out;simp only[JO] at this ⊢;exact this
theorem xA (l n:Nat)(L:List (List UInt8))(w:M)(hn:(n:Int)<=1048576)(hL:L.Pairwise (· < ·))(h:SetIs w l n L):Calls Pg 45 #[.map (T l)] w λe j=>∃v,e=ZD v/\j.ownsRow (Q (U w)) 9 1 v L.length (L.map encStr)/\Below (Q (U w)) w j:=by
 obtain⟨D,b,q⟩:=h;have hsz:=b.size_le;have g:L.Nodup:=hL.imp λh e=>by subst e;exact QB _ h
 have p:L.Perm (strKeys D):=Collected.perm (left:=λ_=>false) ⟨g,λx=>by rw[q x];simp⟩ b (MZ IN) IN (λ_=>rfl);have r:=ae p;have u:=ae g;have t:=ae hL;clear p g hL q;refine(SN (n:=6)).1 ?_;have hfK:Fence.wide.fn 102:=trivial;have hfS:Fence.wide.fn 101:=trivial;refine T3 Tryz.func45 rfl trivial ?_ rfl;simp only[Tryz.ntmps45,LG,BG,JJ,Nat.reduceAdd,Nat.reduceSub,LV,LX,NA,MF,JW,J8]
 gi_wp2_with (first
  |(gi_at_call 102;refine(Tryz.maps_Keys_102 _ _).mono ?_;rintro e j ⟨rfl,rfl⟩)
  |(gi_at_call 101;refine(Tryz.slices_Sorted_keys_101_102 l n D unitElem w b (by unfold maxLen;omega) (by omega)).mono ?_;rintro e j ⟨v,m,rfl,s,i,hnil,hb⟩))
 go_ret;have f:m.Perm L:=s.trans r.symm;have o:m.mergeSort (λx y=>decide (x<=y))=L:=CG (f.nodup_iff.2 u) t (λz=>f.mem_iff);rw[o,f.length_eq] at i;exact⟨v,rfl,ownsRow_base_a i (by simp),((cM _ w).alloc ly _).trans (hb.mono (by simp))⟩
theorem SetIs.mono {w:M}{f n b:Nat}{L:List (List UInt8)}(h:SetIs w f n L)(hn:n<=b):SetIs w f b L:=by obtain⟨D,h1,h2⟩:=h;exact⟨D,h1.mono hn,h2⟩
theorem uF (x:aj)(a0:Option Addr)(h:Nat)(a1:Option Addr)(i:Nat)(w:M):Calls Pg 44 #[.agg #[.string x.e,.int I x.H,.int I x.E,.string x.y,Y a0 x.m h,Y a1 x.l i]] w λe p=>e=ZD (.agg #[.int I (kw x),.string (kC x),Y Z 0 0])/\Below (Q (U w)) w p:=by
 have m:=ae (((BS w).alloc ly (J #[.string x.e,.int I x.H,.int I x.E,.string x.y,Y a0 x.m h,Y a1 x.l i] 46)));obtain⟨b,g⟩:∃b,b=kw x:=⟨_,rfl⟩
 obtain⟨f,j⟩:∃f,f=kC x:=⟨_,rfl⟩
 rw[<-g,<-j];have n:=ae (show b=if x.H=2 then 4 else x.E from g);have o:=ae (show f=if x.H=2 then x.e else x.y from j);clear g j;go_enter Tryz.func44,Tryz.ntmps44;by_cases l:x.H=2
 ·obtain rfl:b=4:=by rw[n.out,nL l]
  obtain rfl:f=x.e:=by rw[o.out,nL l]
  go_wp2
  exact bp (v:=.agg #[.int I 4,.string x.e,Y Z 0 0]) (by simp[results,TQ,go_sem]) rfl ⟨rfl,by
   repeat (first|exact m.out|exact cM _ _|refine N5 ?_ (by simp<;>omega) _|refine Below.setCell ?_ (by simp<;>omega) _)⟩
 ·obtain rfl:b=x.E:=by rw[n.out,eT l]
  obtain rfl:f=x.y:=by rw[o.out,eT l]
  go_wp2
  exact bp (v:=.agg #[.int I x.E,.string x.y,Y Z 0 0]) (by simp[results,TQ,go_sem]) rfl ⟨rfl,by
   repeat (first|exact m.out|exact cM _ _|refine N5 ?_ (by simp<;>omega) _|refine Below.setCell ?_ (by simp<;>omega) _)⟩
theorem qY (b m cap:Nat)(F:Nat->Acc)(w:M)(hm:(m:Int)<=1048576)(hv:AccE w b m F)(D:∀i,i<m->o6 (F i))(ZP:∀i,i<m->mL (F i))(t:Tab w)(hP:Pow w):Calls Pg 8 #[Y (T (N b 0 Z)) m cap] w λe w'=>∃v,e=ZD v/\w'.ownsRow (Q (U w)) 9 1 v (dT F m).length ((dT F m).map encStr)/\Below (Q (U w)) w w':=by
 have HV:=ae hv;have HM:=ae D;have HZ:=ae ZP;have HT:=ae t;have HP:=ae hP;clear hv D ZP t hP;obtain⟨ZL,t⟩:∃ZL,ZL=dT F m:=⟨_,rfl⟩
 rw[<-t];have ZM:=ae (show ZL=if 50<m then [] else cJ F m from t);clear t;go_enter Tryz.func8,Tryz.ntmps8;by_cases E:50<m
 ·obtain rfl:ZL=[]:=by rw[ZM.out,nL E]
  go_wp2;go_ret;exact⟨_,rfl,⟨by simp,.inl ⟨rfl,rfl⟩⟩,cM _ _⟩
 obtain rfl:ZL=cJ F m:=by rw[ZM.out,eT E]
 clear ZM;have ZQ:=ae (zm w);have A1:=ae ((BS w).alloc ly (.map #[] 0));have bt:=@run_makeMap Pg;go_wp2;clear bt;generalize w.alloc (.map #[] 0)=W1 at ZQ A1 ⊢;obtain⟨u,ZR⟩:∃u,u=Q (U w):=⟨_,rfl⟩
 rw[<-ZR] at ZQ ⊢;have aq:=ae ZR;clear ZR;go_loopw [14] (λi wr=>∃k:Nat,k<=m/\i=.int I k/\Hid (SetIs wr u (k*400) (cJ F k))/\Hid (Below (Q (U w)) w wr)) (λi _=>m - (intOf i).toNat);case atStart=>exact⟨0,by omega,rfl,ZQ.out,A1.out⟩
 case round =>
  obtain⟨k,hk,rfl,ZK,x⟩:=hrel;by_cases B:k<m
  ·obtain⟨a0,q,e0,hc9,ZO⟩:=HV.out.2 k B;have c0:=(x.out.cell (p:=(N b k Z)) HV.out.1).trans e0;have X:=ae (show cJ F (k+1)=if bK (F k).f (F k).n=ZF then fg (cJ F k) (F k).f (F k).n else cJ F k from rfl);have hf1:=(HM.out k B).1;have D2:=ae ((BS wr).alloc ly (J #[Y a0 (F k).n q] 37));have y:=ae (x.out.alloc x.out.size (J #[Y a0 (F k).n q] 37));have ZN:=ae (ZK.out.grown D2.out ZK.out.lt);have X0:=ae (show(A wr (J #[Y a0 (F k).n q] 37)).cell? (N (Q (U wr)) 0 Z)=T (Y a0 (F k).n q) by simp);have X1:=ae (show (Q (U wr))<(A wr (J #[Y a0 (F k).n q] 37)).heap.size by simp);have S:=ae ZO;clear ZO e0;go_wp2_with fail;clear c0;generalize A wr (J #[Y a0 (F k).n q] 37)=W2 at D2 y ZN X0 X1 ⊢;refine(mQ a0 (F k).n q (F k).f _ (by omega) (S.out.aa y.out ly) (by omega) (HM.out k B).2 (HT.out.aa y.out HT.out.1)).mono ?_;rintro e w1 ⟨rfl,g⟩;have ZI:=ae (y.out.trans (g.mono y.out.size));have K1:=ae (ZN.out.grown g ZN.out.lt);have x1:=(g.cell (p:=(N (Q (U wr)) 0 Z)) X1.out).trans X0.out;have V:=ae (λh:bK (F k).f (F k).n=ZF=>fx h);clear g;generalize bK (F k).f (F k).n=r at X V ⊢;cases r with
   |false =>go_wp2;exact⟨⟨k+1,by omega,by go_num,by rw[X.out];exact K1.out.mono (by omega),ZI.out⟩,by simp[intOf];omega⟩
   |true =>
    obtain⟨hn1,hn4,-⟩:=V.out rfl;obtain⟨bd,offd,rfl,z⟩:=S.out.resolve_left (by omega);have HR:=ae z;clear z S V;go_wp2;clear x1;go_loopw [24] (λi W=>∃j:Nat,j<=(F k).n/\i=.int I j/\Hid (SetIs W u (k*400+j) (fg (cJ F k) (F k).f j))/\Hid (Below (Q (U w)) w W)) (λi _=>(F k).n - (intOf i).toNat);case atStart=>exact⟨0,by omega,rfl,K1.out,ZI.out⟩
    case round =>
     obtain⟨j,hj,rfl,C,s⟩:=hrel;by_cases ex:j<(F k).n;{obtain⟨p0,p1,p2,p3,⟨G,o,p4,q4⟩,⟨H,l,p5,q5⟩⟩:=(HR.out.aa s.out ly).2 j ex;clear q4 q5;have D3:=ae ((BS wr).alloc ly (J #[.string ((F k).f j).e,.int I ((F k).f j).H,.int I ((F k).f j).E,.string ((F k).f j).y,Y G ((F k).f j).m o,Y H ((F k).f j).l l] 46));have O:=ae (s.out.alloc s.out.size (J #[.string ((F k).f j).e,.int I ((F k).f j).H,.int I ((F k).f j).E,.string ((F k).f j).y,Y G ((F k).f j).m o,Y H ((F k).f j).l l] 46));have R:=ae (C.out.grown D3.out C.out.lt);go_wp2_with fail;clear p0 p1 p2 p3 p4 p5;generalize A wr (J #[.string ((F k).f j).e,.int I ((F k).f j).H,.int I ((F k).f j).E,.string ((F k).f j).y,Y G ((F k).f j).m o,Y H ((F k).f j).l l] 46)=W3 at D3 O R ⊢;refine(uF ((F k).f j) G o H l _).mono ?_;rintro e w4 ⟨rfl,g⟩;have P:=ae (O.out.trans (g.mono O.out.size));have ZJ:=ae (R.out.grown g R.out.lt);clear g;go_wp2_with fail;refine(kZ (kw ((F k).f j)) (kC ((F k).f j)) Z 0 0 _ (HP.out.aa P.out ly)).mono ?_;rintro e w5 ⟨rfl,g⟩;have B5:=ae (P.out.trans (g.mono P.out.size));have K5:=ae (ZJ.out.grown g ZJ.out.lt);clear g;go_wp2_with fail;refine(Eg u (k*400+j) (fg (cJ F k) (F k).f j) (txt ((F k).f j)) _ (by omega) (BJ _) K5.out).mono ?_;rintro e w6 ⟨rfl,L,K⟩;have S6:=ae L;have B6:=ae (bg B5.out K B5.out.size (λj e=>by cases e;exact SL aq.out.symm));clear L K;go_wp2;exact⟨⟨j+1,by omega,by go_num,S6.out,B6.out⟩,by simp[intOf];omega⟩}
     ·obtain rfl:j=(F k).n:=by omega
      go_wp2;exact⟨⟨k+1,by omega,by go_num,by rw[X.out];exact C.out.mono (by omega),s.out⟩,by simp[intOf];omega⟩
  ·obtain rfl:k=m:=by omega
   go_wp2_with (go_at_call 45;refine(xA u (k*400) (cJ F k) _ (by omega) (BR F k) ZK.out).mono ?_;rintro e W ⟨v,rfl,ho,g⟩;have O2:=ae (aC ho x.out.size);have B2:=ae (x.out.trans (g.mono x.out.size));clear ho g);go_ret;exact⟨v,rfl,O2.out,B2.out⟩
