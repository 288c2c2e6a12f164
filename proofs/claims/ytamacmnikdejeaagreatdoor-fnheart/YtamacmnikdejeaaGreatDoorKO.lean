import Derived.Test.YtamacmnikdejeaaGreatDoorKJ
import Derived.Test.YtamacmnikdejeaaGreatDoorMA
import Derived.Test.YtamacmnikdejeaaGreatDoorLV
set_option maxRecDepth 100000
set_option maxHeartbeats 40000000
open Go renaming Addr.mk->Q,Value.slice->Y,Value.string->U,Value.int->J,Value.bool->ZC,Value.agg->ZG,Obj.cells->N,IntKind.i64->I,World->E,TypeId->ZH,World.heap->B,World.cell?->A
open Option renaming none->Z,some->T
open Bool renaming false->ZA,true->ZD
open Array renaming size->z
namespace Go.Proofs.YtamacmnikdejeaaGreatDoor.Vp
open Tryz RowKit Ca
variable {w W:E}{n b m g R:Nat}{t:ZH}
theorem FP:∃i:TypeInfo,Tryz.prog.info? 129=T i/\i.zero=T (ZG #[U ⟨#[]⟩,ZC ZA,ZC ZA,J I 0])/\i.size=4/\i.bytes=32:=KZ kF
theorem lR{base size:Nat}{e:ZH}{cs:Array Value}(hb:base<=z (B w))(f:n<=maxLen)(b:cs.size=n*size):(w.alloc (N cs e)).ownsRow base e size (Y (T (Q (z (B w)) 0 Z)) n n) n cs.toList :=
 ⟨by simpa using b,.inr ⟨z (B w),n,cs,rfl,hb,gM w _,nX _,f,b,by rw[LQ];simp[b]⟩⟩
theorem AO (f:Nat->Link)(h:m<=n):(bY f n).take (m*4)=bY f m:=by
 refine QC λj=>?_;rw[UO];have hn:=ii f n;have hm:=ii f m;by_cases b:j<m*4
 ·have e:j=j / 4*4+j % 4:=by omega
  rw[j6 b,e,jg f (by omega) _ (QE _ (by omega)),jg f (by omega) _ (QE _ (by omega))]
 {rw[eT b,LJ (by omega)]}
theorem Ec{c:Nat}{f:Nat->Link}(h:w.ownsRow b 129 4 (Y (T (Q g 0 Z)) n c) n (bY f n))(o:m<=n):w.ownsRow b 129 4 (Y (T (Q g 0 Z)) m c) m (bY f m):=by
 refine⟨ii f m,?_⟩;rcases h.2 with ⟨i,_⟩|⟨g',cap,j,i,hb,l,hc,q,p,r⟩
 {cases i}
 ·cases i
  refine .inr ⟨g,c,j,rfl,hb,l,by omega,q,p,?_⟩;rw[<-AO f o,<-r,List.take_take,MZ (by omega)]
theorem uV (f:Nat->Link)(n:Nat)(y:Link):bY f n++dl y=bY (λi=>if i=n then y else f i) (n+1):=by
 unfold bY;rw[MB,KI,KE];congr 1;{congr 1;refine UB λi hi=>?_;have:=KV.1 hi;rw[eT (by omega)]};{simp}
theorem Ed{g i l f:Int}{fz:Nat × Nat}(h:w.heap[b]?=T (N #[J I g,J I i,J I l,J I f] t fz))(k:Nat)(m:k<4):∃ZR,A w (Q b k Z)=T (J I ZR):=by
 match k,m with
 |0,_=>exact⟨g,by simp[World.cell?,h]⟩
 |1,_=>exact⟨i,by simp[World.cell?,h]⟩
 |2,_=>exact⟨l,by simp[World.cell?,h]⟩
 |3,_=>exact⟨f,by simp[World.cell?,h]⟩
 |j+4,h5=>exact absurd h5 (by omega)
def mU (W:E)(b:Nat):Nat:=match A W (Q b 5 Z) with
 |some (Y _ n _)=>n
 |_=>0
theorem LBx.len{c:Nat}{i j l f g:Value}{a:Option Addr}(h:LBx W b i j l f g (Y a n c)):mU W b=n:=by unfold mU;rw[h.cells.2.2.2.2.2]
theorem qb (ZN:Nat)(hNN:200<=ZN/\ZN<=299)(ZJ:E)(R p x g c n:Nat)(f:Nat->Link)(nm tx:ByteArray)(kd H:Int)(ZO:Option Addr)(G c4:Nat)(w:E)(hO:Only R ZJ w)(hR:R<z (B ZJ))(hb:z (B ZJ)<=x)(hbw:x<=z (B w))(hr:Rd w R p)(hp:p<=50000)(th:w.ownsRow x 129 4 (Y (T (Q g 0 Z)) n c) n (bY f n))(hn:n<=ZN)(DE:∀j,j<n->(f j).e.size<=5000):Calls Tryz.prog 79 #[.pointer (T (Q R 0 Z)),ZG #[U nm,J I kd,J I H,U tx,Y ZO G c4,Y (T (Q g 0 Z)) n c]] w λe w'=>DL ZN ZJ w R x g (U nm) (J I kd) (J I H) (U tx) (Y ZO G c4) (p+10) e w':=by
 have ZI:=ae (FH (v0:=U nm) (v1:=J I kd) (v2:=J I H) (v3:=U tx) (v4:=Y ZO G c4) hO hR hb hbw hr th DE);obtain⟨ur,hi,Fd,DQ,Fm⟩:=FP;clear hO hR hb hbw hr th DE;obtain⟨-,-,-,-,-,ZK⟩:=ZI.bx.cells;have P:=ZI.bx.lt;by_cases hz:n=0
 ·subst hz;go_enter func79,ntmps79;go_wp2_with fail;generalize World.alloc (World.alloc w _) _=W0 at ZI ZK P ⊢;clear ZK P;refine(dS R _ _ ZI.rd (by omega)).mono ?_;rintro e w1 ⟨ln,rfl,Ha,ld,bt⟩;have L1:=ae (ZI.ac bt ld);clear bt ld ZI;go_wp2_with fail;refine(ay R _ 2 _ L1.rd (by omega) (by omega) (by omega)).mono ?_;rintro e S ⟨ZR,rfl,ph,qr,fd,aq⟩;have ZT:=ae (L1.ac aq fd);clear aq fd L1;obtain⟨bh,Hb⟩:∃b:Bool,(ZR=0/\b=ZD)∨(ZR=1/\b=ZA):=by rcases(show ZR=0∨ZR=1 by omega) with h|h<;>simp[h]
  have A3:=(BS S).alloc ly (N #[U ln,ZC ZA,ZC bh,J I 0] 129);have h2:=ZT.lt;have h3:=ZT.hbw;have O3:(S.alloc (N #[U ln,ZC ZA,ZC bh,J I 0] 129)).ownsRow x 129 4 (Y (T (Q (z (B S)) 0 Z)) 1 1) 1 (bY (λ_=>⟨ln,ZA,bh,0⟩) 1):=lR (cs:=#[U ln,ZC ZA,ZC bh,J I 0]) (by omega) (by unfold maxLen;omega) rfl;have o:=ae ((ZT.aa A3).setB (pX _ _) O3 (.inr (by omega)) (λj _=>by show ln.size<=5000;omega));obtain⟨-,-,-,-,-,ZK⟩:=ZT.bx.cells;have bz:=ZT.bx.fz 5;have P:=ZT.bx.lt;rw[World.setCell_alloc_past _ _ _ _ P] at o;clear A3 O3;rcases Hb with ⟨rfl,rfl⟩|⟨rfl,rfl⟩
  all_goals
   go_upto_region 3 with fail;generalize World.alloc (World.setCell S _ _) _=W3 at o ⊢;clear ZK bz P;obtain⟨b0,b1,b2,b3,b4,ZK⟩:=o.bx.cells;obtain⟨r0,r1,r2,r3,r4,r5⟩:=o.rs.cells;obtain⟨z0,z1,z2,z3,z4,z5⟩:=al6 o.rs.fz;have P:=o.bx.lt;have lr:=o.rs.lt;have FN:=ae (o.fin (ZN:=ZN) (ZM:=p+10) (by omega) (by omega) (U nm) (J I kd) (J I H) (U tx) (Y ZO G c4) (Y (T (Q (z (B S)) 0 Z)) 1 1));have FB:=ae (o.rs.six (U nm) (J I kd) (J I H) (U tx) (Y ZO G c4) (Y (T (Q (z (B S)) 0 Z)) 1 1));go_wp2;generalize World.setCell (World.setCell (World.setCell (World.setCell (World.setCell (World.setCell W3 _ _) _ _) _ _) _ _) _ _) _ _=V at FN FB ⊢;obtain⟨x0,x1,x2,x3,x4,x5⟩:=FB.cells;exact bp (v:=ZG #[U nm,J I kd,J I H,U tx,Y ZO G c4,Y (T (Q (z (B S)) 0 Z)) 1 1]) (by simp[results,results79,go_sem,x0,x1,x2,x3,x4,x5]) rfl FN.out
 have nz:¬ ((n:Int)=0):=by omega
 go_enter func79,ntmps79;go_wp2_with fail;generalize World.alloc (World.alloc w _) _=W0 at ZI ZK P ⊢;refine(ay R _ (n:Int) _ ZI.rd (by omega) (by omega) (by omega)).mono ?_;rintro e w1 ⟨ZR,rfl,ph,qr,ld,bt⟩;obtain⟨k,rfl⟩:=AD ph;have D:k<n:=by omega
 have L1:=ae (ZI.ac bt ld);clear bt ld ZI ZK P ph qr;go_wp2_with fail;refine(ay R _ 7 _ L1.rd (by omega) (by omega) (by omega)).mono ?_;rintro e S ⟨s,rfl,hs0,hs1,fd,aq⟩;have ZT:=ae (L1.ac aq fd);clear aq fd L1;have hn1:=ZT.nm k D;have SB:Hid (∀V:E,LBx V (z (B w)) (U nm) (J I kd) (J I H) (U tx) (Y ZO G c4) (Y (T (Q g 0 Z)) n c)->A V (Q (z (B w)) 5 Z)=T (Y (T (Q g 0 Z)) n c)):=λV h=>h.cells.2.2.2.2.2;go_upto_block 0 with fail;go_cut [] (λwx=>∃(q' W ZP X:Nat) (f':Nat->Link),q'<=p+10/\ZP<=ZN+1/\Hid (LStD ZJ w R x g (U nm) (J I kd) (J I H) (U tx) (Y ZO G c4) wx q' W ZP X f'));case rest =>clear ZT SB hn1;obtain⟨q',W,ZP,X,f',hq',Hc,l⟩:=hcut;go_upto_region 21 with fail;obtain⟨b0,b1,b2,b3,b4,ZK⟩:=l.bx.cells;obtain⟨r0,r1,r2,r3,r4,r5⟩:=l.rs.cells;obtain⟨z0,z1,z2,z3,z4,z5⟩:=al6 l.rs.fz;have P:=l.bx.lt;have lr:=l.rs.lt;have FN:=ae (l.fin (ZN:=ZN) (ZM:=p+10) (by omega) (by omega) (U nm) (J I kd) (J I H) (U tx) (Y ZO G c4) (Y (T (Q W 0 Z)) ZP X));have FB:=ae (l.rs.six (U nm) (J I kd) (J I H) (U tx) (Y ZO G c4) (Y (T (Q W 0 Z)) ZP X));go_wp2;generalize World.setCell (World.setCell (World.setCell (World.setCell (World.setCell (World.setCell wc _ _) _ _) _ _) _ _) _ _) _ _=V at FN FB ⊢;obtain⟨x0,x1,x2,x3,x4,x5⟩:=FB.cells;exact bp (v:=ZG #[U nm,J I kd,J I H,U tx,Y ZO G c4,Y (T (Q W 0 Z)) ZP X]) (by simp[results,results79,go_sem,x0,x1,x2,x3,x4,x5]) rfl FN.out
 rcases(show(s=0∨s=1∨s=2∨s=3)∨s=4∨s=5∨s=6 by omega) with (rfl|rfl|rfl|rfl)|rfl|rfl|rfl;rotate_left 4
 ·obtain⟨m,rfl⟩:∃m,n=m+1:=⟨n - 1,by omega⟩
  have hcap:=jt ZT.y;obtain⟨-,-,-,-,-,ZK⟩:=ZT.bx.cells;have bz:=ZT.bx.fz 5;have P:=ZT.bx.lt;have o:=ae (ZT.setB (pX _ _) (Ec ZT.y (D0 m)) (.inl rfl) (λj hj=>ZT.nm j (by omega)));have hw:IntKind.i64.wrap (((m+1:Nat):Int) - 1)=(m:Int):=by rw[p9];omega
  go_wp2;go_meet;exact⟨_,_,_,_,_,by omega,by omega,o⟩
 ·go_wp2_with fail;refine aH (λV=>A V (Q (z (B w)) 5 Z)=T (Y (T (Q g 0 Z)) n c)) 10 (by kernel_rfl) ?_;have o:=ae (ZT.aa br.drew);clear ZT;generalize S.drew=t at o ⊢;have r:=ae (SB t o.bx);iterate 6
   refine aK 0 (v:=?_) rfl rfl (by kernel_rfl) (λ_ _ _ h=>h) rfl ?_ r ?_;rotate_left
   ·(intro wz s0;go_simp)
    (try with_reducible rfl)
   (try simp only[Act.put,nzL])
  have e0:=(cQ (j:=0) o.y D (by omega) rfl).1;have e1:=(cQ (j:=1) o.y D (by omega) rfl).1;have e2:=(cQ (j:=2) o.y D (by omega) rfl).1;have e3:=(cQ (j:=3) o.y D (by omega) rfl).1;rw[LX] at e0;refine aj (i:=6) rfl (by kernel_rfl) λK q=>?_;go_simp;refine q _ _ (λ_=>r) ?_;clear q K
  (try simp only[Act.put,nzL])
  clear e0 e1 e2 e3;refine aj (i:=7) rfl (by kernel_rfl) λK q=>?_;go_simp;have A4:=(BS t).alloc ly (N #[U (f k).e,ZC (f k).ask,ZC (f k).has,J I (f k).G] 129);have l:=ae (o.aa A4);have HN:Hid (∀j u,(dl (f k))[j]?=T u->(t.alloc (N #[U (f k).e,ZC (f k).ask,ZC (f k).has,J I (f k).G] 129)).cell? (((Q (z (B t)) 0 Z):Addr).add j)=T u):=(lR (base:=0) (e:=129) (size:=4) (n:=1) (cs:=#[U (f k).e,ZC (f k).ask,ZC (f k).has,J I (f k).G]) (IH _) (by unfold maxLen;omega) rfl).cells rfl;have hl3:=o.lt;have hl3':=o.hbw;have hz3:(t.alloc (N #[U (f k).e,ZC (f k).ask,ZC (f k).has,J I (f k).G] 129)).heap.size=z (B t)+1:=by simp
  clear A4 r;have r:=ae (SB _ l.bx);refine q _ _ (λ_=>r) ?_;clear q K
  (try simp only[Act.put,nzL])
  refine aj (i:=8) rfl (by kernel_rfl) (λK q=>?_);refine step_append_lies _ rfl (.tmp 110) (.tmp 116) 44 rfl x 129 ur (ZG #[U ⟨#[]⟩,ZC ZA,ZC ZA,J I 0]) 4 32 OD hi Fd DQ Fm rfl (by decide) (Y (T (Q g 0 Z)) n c) n (bY f n) (by simp[Act.eval]) l.y (Q (z (B t)) 0 Z) 1 1 (dl (f k)) (by simp[Act.eval]) rfl HN.out (by simp[dl,Value.oneCell']) (by omega) (by unfold maxLen;omega) (by omega) (by omega) _ rfl ?_;intro g5 c5 O L ZQ la At;rw[uV f n (f k)] at L;have G5:=ae ZQ;have O5:=ae L;have n9:g5=g∨(z (B w))<=g5:=by
   rcases la with h|h;{exact .inl (by simpa[Value.ownBlock] using h.symm)};{exact .inr (by omega)}
  have BX:Hid (LBx O (z (B w)) (U nm) (J I kd) (J I H) (U tx) (Y ZO G c4) (Y (T (Q g 0 Z)) n c)):=l.bx.ab (ZQ.block _ l.bx.lt (λe=>l.gne.1 (by simpa[Value.ownBlock] using e.symm)));clear L ZQ la At HN r;have r:=ae (SB O BX);refine q _ _ (λ_=>r) ?_;clear q K
  (try simp only[Act.put,nzL])
  refine aj (i:=9) rfl (by kernel_rfl) λK q=>?_;go_simp;refine q _ _ (λ_=>r) ?_;clear q K
  (try simp only[Act.put,nzL])
  have L6:=ae (l.setB G5 O5 n9 (λj hj=>by show(if j=n then f k else f j).e.size<=5000;split;exact hn1;exact l.nm j (by omega)));obtain⟨-,-,-,-,-,ZK⟩:=BX.cells;have bz:=BX.fz 5;have P:=BX.lt;refine aj (i:=10) rfl (by kernel_rfl) λK q=>?_;go_simp;refine q _ _ (λh=>absurd rfl h) ?_;clear q K r
  (try simp only[Act.put,nzL])
  refine be (by kernel_rfl) ?_ _;clear ZK bz P BX G5 O5 l;go_wp2;go_meet;exact⟨_,_,_,_,_,by omega,by omega,L6⟩
 ·go_wp2_with fail;refine(ay R _ 2 _ ZT.rd (by omega) (by omega) (by omega)).mono ?_;rintro e w3 ⟨ZR,rfl,ph,qr,DS,Fk⟩;have o:=ae (ZT.ac Fk DS);clear Fk DS ZT hn1 SB D;have hw:IntKind.i64.wrap (200+ZR)=200+ZR:=by rw[p9];omega
  go_wp2_with fail;go_loopw [] (λwr=>∃(W ZP X:Nat) (f':Nat->Link),ZP<=ZN+1/\Hid (LStD ZJ w R x g (U nm) (J I kd) (J I H) (U tx) (Y ZO G c4) wr (p+1+1+1) W ZP X f')) (λwr=>300 - mU wr (z (B w)));case atStart=>exact⟨g,n,c,f,by omega,o⟩
  case round =>
   obtain⟨W,ZP,X,f',Hc,l⟩:=hrel;obtain⟨-,-,-,-,-,ZK⟩:=l.bx.cells;have P:=l.bx.lt;have n7:=l.lt;have n8:=l.hbw;clear o;by_cases At:(ZP:Int)<200+ZR
   ·have ZS:=ae (l.aa ((BS wr).alloc ly (N #[U ⟨#[97]⟩,ZC ZA,ZC ZD,J I 0] 129)));have HN:Hid (∀j u,(dl ⟨⟨#[97]⟩,ZA,ZD,0⟩)[j]?=T u->(wr.alloc (N #[U ⟨#[97]⟩,ZC ZA,ZC ZD,J I 0] 129)).cell? (((Q (z (B wr)) 0 Z):Addr).add j)=T u):=(lR (base:=0) (e:=129) (size:=4) (n:=1) (cs:=#[U ⟨#[97]⟩,ZC ZA,ZC ZD,J I 0]) (IH _) (by unfold maxLen;omega) rfl).cells rfl;have hz5:(wr.alloc (N #[U ⟨#[97]⟩,ZC ZA,ZC ZD,J I 0] 129)).heap.size=z (B wr)+1:=by simp
    go_wp2_with (at_builtin;refine wpList_append_lies _ rfl (.tmp 36) (.tmp 38) 44 rfl x 129 ur (ZG #[U ⟨#[]⟩,ZC ZA,ZC ZA,J I 0]) 4 32 OD hi Fd DQ Fm rfl (by decide) (Y (T (Q W 0 Z)) ZP X) ZP (bY f' ZP) (by simp[Act.eval]) ZS.y (Q (z (B wr)) 0 Z) 1 1 (dl ⟨⟨#[97]⟩,ZA,ZD,0⟩) (by simp[Act.eval]) rfl HN.out (by simp[dl,Value.oneCell']) (by omega) (by unfold maxLen;omega) (by omega) (by omega) _ rfl ?_;intro g5 c5 O L ZQ la G8;have BX:Hid (LBx O (z (B w)) (U nm) (J I kd) (J I H) (U tx) (Y ZO G c4) (Y (T (Q W 0 Z)) ZP X)):=ZS.bx.ab (ZQ.block _ ZS.bx.lt (λe=>ZS.gne.1 (by simpa[Value.ownBlock] using e.symm)));rw[uV f' ZP] at L;have n9:g5=W∨(z (B w))<=g5:=(by rcases la with h|h;exact .inl (by simpa[Value.ownBlock] using h.symm);exact .inr (by omega));have L6:=ae (ZS.setB ZQ L n9 (λj hj=>(by show(if j=ZP then (⟨⟨#[97]⟩,ZA,ZD,0⟩:Link) else f' j).e.size<=5000;split;exact(by decide);exact ZS.nm j (by omega))));obtain⟨-,-,-,-,-,q5⟩:=BX.cells;have qz:=BX.fz 5;have ql:=BX.lt;clear L ZQ la G8 n9);refine⟨⟨g5,ZP+1,c5,_,by omega,L6⟩,?_⟩;have e1:=l.bx.len;have e2:=L6.bx.len;show 300 - mU _ _<300 - mU _ _;rw[e1,e2];omega
   {skip;go_wp2;go_meet;exact⟨_,_,_,_,_,by omega,by omega,l⟩}
 focus
  go_wp2_with fail;refine aH (λV=>A V (Q (z (B w)) 5 Z)=T (Y (T (Q g 0 Z)) n c)) 7 (by kernel_rfl) ?_;have o:=ae (ZT.aa br.drew);clear ZT;generalize S.drew=t at o ⊢;have r:=ae (SB t o.bx)
  iterate 4
   refine aK 0 (v:=?_) rfl rfl (by kernel_rfl) (λ_ _ _ h=>h) rfl ?_ r ?_;rotate_left
   ·(intro wz s0;go_simp)
    (try with_reducible rfl)
   (try simp only[Act.put,nzL])
  refine aj (i:=4) rfl (by kernel_rfl) λK q=>?_;go_simp;go_at_call 60;refine(dS R _ _ o.rd (by omega)).mono ?_;rintro e C ⟨ln,rfl,Ha,ZL,M⟩;have l:=ae (o.ac M ZL);clear M ZL o r;have r:=ae (SB C l.bx);refine q _ _ (λ_=>r) ?_;clear q K
  (try simp only[Act.put,nzL])
  iterate 2
   refine bU 5 rfl rfl (by kernel_rfl) λK q=>?_;go_simp;refine q _ _ (λ_=>r) ?_;clear q K
   (try simp only[Act.put,nzL])
  obtain⟨d0,d1⟩:=cQ (j:=0) l.y D (by omega) rfl;rw[LX] at d0 d1;have gl:=l.gne.2.2.2;have ZS:Hid (LStD ZJ w R x g (U nm) (J I kd) (J I H) (U tx) (Y ZO G c4) (C.setCell (Q g (k*4) Z) (U ln)) _ g n c _):=l.setL (j:=0) (y:={ f k with e:=ln }) (u:=U ln) D (by omega) rfl (by show ln.size<=5000;omega)
 rotate_left;have M1:=True.intro;iterate 2
  focus
   go_wp2_with fail;first|(guard_hyp M1;refine aH (λV=>A V (Q (z (B w)) 5 Z)=T (Y (T (Q g 0 Z)) n c)/\A V (Q g (k*4+1) Z)=T (ZC (f k).ask)) 12 (by kernel_rfl) ?_)|refine aH (λV=>A V (Q (z (B w)) 5 Z)=T (Y (T (Q g 0 Z)) n c)/\A V (Q g (k*4+2) Z)=T (ZC (f k).has)) 12 (by kernel_rfl) ?_
   have l:=ae (ZT.aa br.drew);clear ZT;generalize S.drew=t at l ⊢;first|(guard_hyp M1;obtain⟨d0,d1⟩:=cQ (j:=1) l.y D (by omega) rfl)|obtain⟨d0,d1⟩:=cQ (j:=2) l.y D (by omega) rfl
   first|(guard_hyp M1;have r:Hid (A t (Q (z (B w)) 5 Z)=T (Y (T (Q g 0 Z)) n c)/\A t (Q g (k*4+1) Z)=T (ZC (f k).ask)):=⟨SB t l.bx,d0⟩)|have r:Hid (A t (Q (z (B w)) 5 Z)=T (Y (T (Q g 0 Z)) n c)/\A t (Q g (k*4+2) Z)=T (ZC (f k).has)):=⟨SB t l.bx,d0⟩
   clear d0
   iterate 10
    refine aK 0 (v:=?_) rfl rfl (by kernel_rfl) (λ_ _ _ h=>h) rfl ?_ r ?_;rotate_left
    ·(rintro wz ⟨s0,s1⟩;go_simp)
     (try with_reducible rfl)
    (try simp only[Act.put,nzL])
   iterate 2
    refine bU 10 rfl rfl (by kernel_rfl) λK q=>?_;go_simp;refine q _ _ (λ_=>r) ?_;clear q K
    (try simp only[Act.put,nzL])
   have d0:=r.2;have gl:=l.gne.2.2.2;first|(guard_hyp M1;have ZS:Hid (LStD ZJ w R x g (U nm) (J I kd) (J I H) (U tx) (Y ZO G c4) (t.setCell (Q g (k*4+1) Z) (ZC (!(f k).ask))) _ g n c _):=l.setL (j:=1) (y:={ f k with ask:=!(f k).ask }) (u:=ZC (!(f k).ask)) D (by omega) rfl hn1)|have ZS:Hid (LStD ZJ w R x g (U nm) (J I kd) (J I H) (U tx) (Y ZO G c4) (t.setCell (Q g (k*4+2) Z) (ZC (!(f k).has))) _ g n c _):=l.setL (j:=2) (y:={ f k with has:=!(f k).has }) (u:=ZC (!(f k).has)) D (by omega) rfl hn1
  rotate_left
 focus
  go_wp2_with fail;refine aH (λV=>A V (Q (z (B w)) 5 Z)=T (Y (T (Q g 0 Z)) n c)/\A V (Q g (k*4+3) Z)=T (J I (f k).G)) 17 (by kernel_rfl) ?_;have o:=ae (ZT.aa br.drew);clear ZT;generalize S.drew=t at o ⊢;have r:Hid (A t (Q (z (B w)) 5 Z)=T (Y (T (Q g 0 Z)) n c)/\A t (Q g (k*4+3) Z)=T (J I (f k).G)):=⟨SB t o.bx,(cQ (j:=3) o.y D (by omega) rfl).1⟩
  iterate 10
   refine aK 0 (v:=?_) rfl rfl (by kernel_rfl) (λ_ _ _ h=>h) rfl ?_ r ?_;rotate_left
   ·(rintro wz ⟨s0,s1⟩;go_simp)
    (try with_reducible rfl)
   (try simp only[Act.put,nzL])
  refine aK 11 (v:=?_) rfl rfl (by kernel_rfl) (λ_ _ _ h=>h) rfl ?_ r ?_;rotate_left
  ·(rintro wz ⟨s0,s1⟩;go_simp)
   (try with_reducible rfl)
  (try simp only[Act.put,nzL])
  generalize IntKind.i64.wrap ((f k).G+1)=ax;refine od (i:=10) (j:=12) rfl rfl (by kernel_rfl) (λK q=>?_) λK q=>?_
  focus
   go_simp;have A4:=(BS t).alloc ly (N #[J I (-1),J I 0,J I ax,J I 400] 3);have HL:Hid ((t.alloc (N #[J I (-1),J I 0,J I ax,J I 400] 3)).heap[z (B t)]?=T (N #[J I (-1),J I 0,J I ax,J I 400] 3 (0,0))):=gM t _;have l:=ae (o.aa A4);have n7:=o.lt;have n8:=o.hbw;have sm:=o.hR;have ro:=o.hb;have n6:z (B t)≠R:=by omega
   clear A4 r n7 n8 sm ro;generalize World.alloc t _=C at l HL ⊢;generalize (z (B t))=Bk at HL n6 ⊢;have r:Hid (A C (Q (z (B w)) 5 Z)=T (Y (T (Q g 0 Z)) n c)/\A C (Q g (k*4+3) Z)=T (J I (f k).G)):=⟨SB C l.bx,(cQ (j:=3) l.y D (by omega) rfl).1⟩
   refine q _ _ (λ_=>r) ?_;clear q K
   (try simp only[Act.put,nzL])
   refine aj (i:=12) rfl (by kernel_rfl) λK q=>?_;go_simp;go_at_call 33;refine(ay R _ 4 _ l.rd (by omega) (by omega) (by omega)).mono ?_;rintro e O ⟨z4,rfl,mv,GS,ZL,M⟩;obtain⟨m,rfl⟩:=AD mv;have hm:m<4:=by omega
   have ZS:=ae (l.ac M ZL);have HL:=ae ((M.block Bk (ar HL) n6).trans HL);clear M ZL l r;have r:Hid (A O (Q (z (B w)) 5 Z)=T (Y (T (Q g 0 Z)) n c)/\A O (Q g (k*4+3) Z)=T (J I (f k).G)):=⟨SB O ZS.bx,(cQ (j:=3) ZS.y D (by omega) rfl).1⟩
   refine q _ _ (λ_=>r) ?_;clear q K
   (try simp only[Act.put,nzL])
  rotate_left
  focus
   go_simp;go_at_call 33;refine(ay R _ 4 _ o.rd (by omega) (by omega) (by omega)).mono ?_;rintro e C ⟨z4,rfl,mv,GS,ZL,M⟩;obtain⟨m,rfl⟩:=AD mv;have hm:m<4:=by omega
   have l:=ae (o.ac M ZL);clear M ZL o r;have r:Hid (A C (Q (z (B w)) 5 Z)=T (Y (T (Q g 0 Z)) n c)/\A C (Q g (k*4+3) Z)=T (J I (f k).G)):=⟨SB C l.bx,(cQ (j:=3) l.y D (by omega) rfl).1⟩
   refine q _ _ (λ_=>r) ?_;clear q K
   (try simp only[Act.put,nzL])
   refine aj (i:=10) rfl (by kernel_rfl) λK q=>?_;go_simp;have A4:=(BS C).alloc ly (N #[J I (-1),J I 0,J I ax,J I 400] 3);have HL:Hid ((C.alloc (N #[J I (-1),J I 0,J I ax,J I 400] 3)).heap[z (B C)]?=T (N #[J I (-1),J I 0,J I ax,J I 400] 3 (0,0))):=gM C _;have ZS:=ae (l.aa A4);have n7:=l.lt;have n8:=l.hbw;have sm:=l.hR;have ro:=l.hb;have n6:z (B C)≠R:=by omega
   clear A4 r n7 n8 sm ro;generalize World.alloc C _=O at ZS HL ⊢;generalize (z (B C))=Bk at HL n6 ⊢;have r:Hid (A O (Q (z (B w)) 5 Z)=T (Y (T (Q g 0 Z)) n c)/\A O (Q g (k*4+3) Z)=T (J I (f k).G)):=⟨SB O ZS.bx,(cQ (j:=3) ZS.y D (by omega) rfl).1⟩
   refine q _ _ (λ_=>r) ?_;clear q K
   (try simp only[Act.put,nzL])
  all_goals
   have l:=ZS;clear ZS;obtain⟨zz,hzz⟩:=Ed HL m hm
   iterate 4
    refine bU 13 rfl rfl (by kernel_rfl) λK q=>?_;go_simp;refine q _ _ (λ_=>r) ?_;clear q K
    (try simp only[Act.put,nzL])
   have d0:=r.2;have d1:=(cQ (j:=3) l.y D (by omega) rfl).2;have gl:=l.gne.2.2.2;have ZS:Hid (LStD ZJ w R x g (U nm) (J I kd) (J I H) (U tx) (Y ZO G c4) (O.setCell (Q g (k*4+3) Z) (J I zz)) _ g n c _):=l.setL (j:=3) (y:={ f k with G:=zz }) (u:=J I zz) D (by omega) rfl hn1
 all_goals
  refine bU 0 rfl rfl (by kernel_rfl) λK q=>?_;go_simp;refine q _ _ (λh=>absurd rfl h) ?_;clear q K r
  (try simp only[Act.put,nzL])
  refine be (by kernel_rfl) ?_ _;clear d0 d1 gl l;go_wp2;go_meet;exact⟨_,_,_,_,_,by omega,by omega,ZS⟩
abbrev DC (V:E)(g q:Nat)(d:au)(b f h i:Nat):Prop:=A V (Q g q Z)=T (U d.e)/\A V (Q g (q+1) Z)=T (J I d.L)/\A V (Q g (q+2) Z)=T (J I d.M)/\A V (Q g (q+3) Z)=T (U d.H)/\A V (Q g (q+4) Z)=T (Y (T (Q b 0 Z)) d.h f)/\A V (Q g (q+5) Z)=T (Y (T (Q h 0 Z)) d.f i)
theorem Ee{s0 s1 f g:ByteArray}{fz:Nat × Nat}(h:w.heap[b]?=T (N #[U s0,U s1,U f,U g] t fz))(m:s0.size<=5000)(h1:s1.size<=5000)(h2:f.size<=5000)(l:g.size<=5000)(k:Nat)(i:k<4):∃s:ByteArray,s.size<=5000/\A w (Q b k Z)=T (U s):=by
 match k,i with
 |0,_=>exact⟨s0,m,by simp[World.cell?,h]⟩
 |1,_=>exact⟨s1,h1,by simp[World.cell?,h]⟩
 |2,_=>exact⟨f,h2,by simp[World.cell?,h]⟩
 |3,_=>exact⟨g,l,by simp[World.cell?,h]⟩
 |j+4,h5=>exact absurd h5 (by omega)
theorem DP.up{q lo:Nat}{e:Ending}{w':E}(h:DP w R q lo n e w')(hn:n<=m):DP w R q lo m e w':=by obtain⟨L,g,c,h1,h2,b,i,f⟩:=h;exact⟨L,g,c,h1,h2,b,nL i hn,f⟩
theorem AP{K:Nat}{i p f:Nat}{r:DR}(h:DSub W i r)(s:r.2.1=Y (T (Q f 0 Z)) r.1.h g)(hR:Rd W R p)(j:p<=20000)(l:FitK K r.1)(hK:K<=80):Calls Tryz.prog 78 #[.pointer (T (Q R 0 Z)),ZG #[Y (T (Q f 0 Z)) r.1.h g]] W λe t=>DP W R (p+1000) 0 (200+K+1) e t:=by
 by_cases m:r.1.h=0;{rw[m];exact(vT R p f g W hR j).mono λ_ _ h=>h.up (by omega)}
 ·obtain⟨a,cap,e,q⟩:=h.ins;rw[s] at e;obtain⟨rfl,-,-⟩:=PO e;rcases q with h1|⟨b,off,o,n⟩
  {exact absurd h1 m}
  ·cases o
   exact mR (200+K) ⟨by omega,by omega⟩ R p f g r.1.h r.1.u W hR j n ⟨by omega,l.an⟩ l.asz
theorem r8 (Hj:Ew)(K0 ZJ:Nat)(hK0:K0+1<=ZJ)(hKK:ZJ<=50)(R p:Nat)(a:Option Addr)(n cap:Nat)(f:Nat->au)(w:E)(hf:SlDeed w a n f)(Ho:∀i,i<n->FitK K0 (f i))(hn:n<=450+K0)(hR:Rd w R p)(hp:p<=19000):Calls Tryz.prog 34 #[.pointer (T (Q R 0 Z)),ZG #[Y a n cap]] w λe w'=>DAK ZJ w R (p+1100) e w':=by
 have Jt:=ae Hj;clear Hj;have HF:=ae hf;have Ib:=ae Ho;have HR:=ae hR;have Hr:=hR.lt;clear hf Ho hR;have A0:=ae (((BS w).alloc ly (N #[Y a n cap] 25)).alloc (by simp) (N #[Y Z 0 0] 25));have Hz:Hid (((w.alloc (N #[Y a n cap] 25)).alloc (N #[Y Z 0 0] 25)).heap[z (B w)+1]?=T (N #[Y Z 0 0] 25 (0,0))):=by have h:=gM (w.alloc (N #[Y a n cap] 25)) (N #[Y Z 0 0] 25);rw[show(w.alloc (N #[Y a n cap] 25)).heap.size=z (B w)+1 by simp] at h;exact h
 have aq:((w.alloc (N #[Y a n cap] 25)).alloc (N #[Y Z 0 0] 25)).heap.size=z (B w)+2:=by simp
 go_enter func34,ntmps34;go_wp2_with fail;generalize World.alloc (World.alloc w _) _=W0 at A0 Hz aq ⊢;refine(zq a n cap f _ (by omega) (HF.aa A0 ly) (λi hi=>((Ib i hi).d (by omega)).fits)).mono ?_;rintro e w1 ⟨a1,c1,D,rfl,hD,Fd,Ie,ro⟩;have la:=ae Ie;have IJ:=ae hD.up;clear Ie;have hl:D.length=n:=by have:=CV List.length Fd;simpa using this
 have ur:Hid (∀r∈D,FitK K0 r.1):=λr hr=>by have hm:r.1∈D.map (·.1):=LM.2 ⟨r,hr,rfl⟩;rw[Fd] at hm;obtain⟨i,hi,e⟩:=LM.1 hm;rw[<-e];exact Ib i (KV.1 hi)
 have Ih:=ro.size;have B2:=(BS w1).alloc ly (N #[Y a1 D.length c1] 25);have S1:Hid (SpS ZJ w R (z (B w1)) (w1.alloc (N #[Y a1 D.length c1] 25)) p a1 c1 D):=by have O1:Only R w w1:=(Only.q A0).trans (Only.q (ro.mono (by omega)));exact⟨((HR.aa A0 ly).aa ro (by omega)).aa B2 ly,O1.trans (Only.q B2),(B2.block _ (by omega)).trans ((ro.block _ (by omega)).trans Hz),gM w1 _,((hD.rw.aa B2 ly).mono (by omega)),λr hr=>(ur r hr).up (by omega),Hr,by omega,by omega⟩
 have hX:z (B w)+2<=z (B w1):=by omega
 have hD9:D.length<=450+K0:=by omega
 clear hD ro B2 Ih aq A0 Hz HF Ib HR Fd hl;go_upto_region 2 with fail;generalize World.alloc w1 _=W1 at S1 ⊢;generalize (z (B w1))=X at S1 hX ⊢;have bx:=S1.l.1;by_cases hz:D.length=0
 ·obtain rfl:D=[]:=RP.1 hz;rw[KF] at bx;clear hz;go_wp2_with fail;refine(ay R _ 2 _ S1.rd (by omega) (by omega) (by omega)).mono ?_;rintro e w2 ⟨x,rfl,x0,x1,At,ph⟩;have G:=ae (S1.ac ph At);clear ph At S1 bx;go_wp2_with fail;refine(ay R _ 3 _ G.rd (by omega) (by omega) (by omega)).mono ?_;rintro e ZN ⟨y,rfl,y0,y1,sm,Bk⟩;have l:=ae (G.ac Bk sm);clear Bk sm G;obtain⟨m,hm⟩:∃m:Nat,400*x+y=(m:Int):=⟨(400*x+y).toNat,by omega⟩
  have Jq:IntKind.i64.wrap (400*x)=400*x:=by rw[p9];omega
  have Ju:m<=450:=by omega
  have hw2:IntKind.i64.wrap (m:Int)=(m:Int):=by rw[p9];omega
  have hmk:=λw=>FZ m (by omega) w;have rs:=l.rs;have r0:A ZN (Q (z (B w)+1) 0 Z)=T (Y Z 0 0):=by simp[World.cell?,rs]
  have f0:ZN.frozen? (Q (z (B w)+1) 0 Z)=ZA:=by simp[World.frozen?,rs]
  have l0:=ar rs;have FN:=ae (AA (m:=m) (ZM:=p+1100) l Ju (by omega));clear rs;go_wp2;exact bp (v:=ZG #[Y (T (Q (z (B ZN)) 0 Z)) m m]) (by simp[results,results34,go_sem,r0,l0]) rfl FN.out
 obtain⟨g,JA,e⟩:=df S1.row.y (by omega);obtain⟨rfl,-,-⟩:=PO e;clear e JA;have nz:¬ ((D.length:Int)=0):=by omega
 go_wp2_with fail;refine(ay R _ (D.length:Int) _ S1.rd (by omega) (by omega) (by omega)).mono ?_;rintro e w2 ⟨ZR,rfl,aq,n7,At,ph⟩;obtain⟨k,rfl⟩:=AD aq;have hk:k<D.length:=by omega
 have S0:=ae (S1.ac ph At);clear ph At S1 aq n7 bx;obtain⟨r,hr,hm⟩:=dr hk;have ZO:=ae hr;have HM:=ae hm;clear hr hm;go_wp2_with fail;refine(ay R _ 13 _ S0.rd (by omega) (by omega) (by omega)).mono ?_;rintro e ZN ⟨s,rfl,hs0,Ih,sm,Bk⟩;have G:=ae (S0.ac Bk sm);clear Bk sm S0;have Hl:=ur r HM;have ZL:=Hl.up (show K0<=ZJ by omega);have htx:=Hl.tx;have Ja:=Hl.ln;go_upto_block 0 with fail;go_cut [8,9,10,11,12] (λ_ _ _ _ _ wx=>∃(a':Option Addr) (c' q':Nat) (D':List DR),q'<=p+1100/\Hid (SpS ZJ w R X wx q' a' c' D'));case first =>
  rcases(show(s=0∨s=1∨s=2∨s=3∨s=4∨s=5)∨(s=6∨s=7∨s=8)∨s=9∨s=10∨s=11∨s=12 by omega) with (h|h|h|h|h|h)|h6|rfl|rfl|rfl|rfl;rotate_left 6
  ·as_aux_lemma =>
    obtain⟨⟨ga,ca,ea⟩,O,cl,el⟩:=la.out r HM;have EA:=ae ea;have EL:=ae el;clear ea el;rcases h6 with rfl|rfl|rfl;iterate 3
     ·go_wp2_with fail
      refine aH (λV=>A V (Q X 0 Z)=T (Y (T (Q g 0 Z)) D.length c1)/\DC V g (k*6) r.1 ga ca O cl) 11 (by kernel_rfl) ?_;have l:=ae (G.aa br.drew);clear G;generalize ZN.drew=ZQ at l ⊢;have ZS:Hid (A ZQ (Q X 0 Z)=T (Y (T (Q g 0 Z)) D.length c1)/\DC ZQ g (k*6) r.1 ga ca O cl):=⟨l.l.1,by have h:=(l.G (j:=0) ZO (by omega) rfl).1;rwa[LX] at h,(l.G (j:=1) ZO (by omega) rfl).1,(l.G (j:=2) ZO (by omega) rfl).1,(l.G (j:=3) ZO (by omega) rfl).1,(l.G (j:=4) ZO (by omega) (by rw[<-EA.out];rfl)).1,(l.G (j:=5) ZO (by omega) (by rw[<-EL.out];rfl)).1⟩
      iterate 9
       refine aK 0 (v:=?_) rfl rfl (by kernel_rfl) (λ_ _ _ h=>h) rfl ?_ ZS ?_;rotate_left
       ·(rintro wz ⟨s0,s1,s2,s3,s4,s5,s6⟩;go_simp)
        (try with_reducible rfl)
       (try simp only[Act.put,nzL])
      refine aj (i:=9) rfl (by kernel_rfl) λK ZT=>?_;go_simp;go_at_call 79;refine(qb (200+K0) ⟨by omega,by omega⟩ w R _ (z (B w)+2) O cl r.1.f r.1.m r.1.e r.1.H r.1.L r.1.M (T (Q ga 0 Z)) r.1.h ca _ l.o Hr (by omega) (by have:=l.lt;omega) l.rd (by omega) (by rw[<-EL.out];exact(l.row.sub r HM).aq) Ja ZL.lsz).mono ?_;rintro e S ⟨g5,n5,c5,f5,rfl,Hv,Hw,IB,⟨q5,hq5,Iy⟩,IG,fd⟩;obtain⟨kX,kg,ID⟩:=l.kept HM EL fd;have S5:Hid (SpS ZJ w R X (iF S g k ({ r.1 with f:=n5,m:=f5 },Y (T (Q ga 0 Z)) r.1.h ca,Y (T (Q g5 0 Z)) n5 c5)) q5 (T (Q g 0 Z)) c1 _):=l.deed IJ ZO HM EL Iy IG fd _ ⟨l.actK HM EA EL fd,Hv⟩ ⟨ZL.nm,ZL.tx,ZL.an,ZL.asz,by show n5<=200+ZJ;omega,IB⟩;have F4:Hid (∀j,j<6->S.frozen? (Q g (k*6+j) Z)=ZA):=λj hj=>(KM (a:=(Q g (k*6+j) Z)) kg).trans (l.G (j:=j) ZO hj (gq (show j<(ddV r).length from hj))).2;have DS:Hid (A S (Q X 0 Z)=T (Y (T (Q g 0 Z)) D.length c1)/\DC S g (k*6) r.1 ga ca O cl):=⟨(cq (a:=(Q X 0 Z)) kX).trans ZS.1,(cq (a:=(Q g (k*6) Z)) kg).trans ZS.2.1,(cq (a:=(Q g (k*6+1) Z)) kg).trans ZS.2.2.1,(cq (a:=(Q g (k*6+2) Z)) kg).trans ZS.2.2.2.1,(cq (a:=(Q g (k*6+3) Z)) kg).trans ZS.2.2.2.2.1,(cq (a:=(Q g (k*6+4) Z)) kg).trans ZS.2.2.2.2.2.1,(cq (a:=(Q g (k*6+5) Z)) kg).trans ZS.2.2.2.2.2.2⟩
      clear Iy IG fd Hv IB kX kg ZS l;have ZS:=DS;clear DS;refine ZT _ _ (λ_=>ZS) ?_;clear ZT K
      (try simp only[Act.put,nzL])
      refine aj (i:=10) rfl (by kernel_rfl) λK ZT=>?_;go_simp;refine ZT _ _ (λ_=>ZS) ?_;clear ZT K
      (try simp only[Act.put,nzL])
      obtain⟨-,d0,d1,d2,d3,d4,d5⟩:=ZS.out;have y0:=F4.out 0 (by omega);have y1:=F4.out 1 (by omega);have y2:=F4.out 2 (by omega);have y3:=F4.out 3 (by omega);have y4:=F4.out 4 (by omega);have y5:=F4.out 5 (by omega);rw[LX] at y0;refine aj (i:=11) rfl (by kernel_rfl) λK ZT=>?_;go_simp;refine ZT _ _ (λh=>absurd rfl h) ?_;clear ZT K ZS
      (try simp only[Act.put,nzL])
      refine be (by kernel_rfl) ?_ _;clear d0 d1 d2 d3 d4 d5 y0 y1 y2 y3 y4 y5;go_wp2;go_meet;exact⟨_,_,_,_,by omega,S5⟩
  ·skip;by_cases Jr:(0:Int)<(k:Int)
   ·obtain⟨m,rfl⟩:∃m,k=m+1:=⟨k - 1,by omega⟩
    have h1l:(1:Int)<(D.length:Int):=by omega
    obtain⟨r1,IP,Hi⟩:=dr (R:=D) (i:=m) (by omega);have ld:=ae IP;have Hx:=ae Hi;clear IP Hi;obtain⟨⟨ga,ca,ea⟩,O,cl,el⟩:=la.out r HM;obtain⟨⟨gb,cb,eb⟩,gm,cm,em⟩:=la.out r1 Hx;have EA:=ae ea;have EL:=ae el;have EB:=ae eb;have EM:=ae em;clear ea el eb em;have Jn:=((ur r1 Hx).up (show K0<=ZJ by omega))
    have bx:=G.l.1;have C2:Hid (DC ZN g ((m+1)*6) r.1 ga ca O cl):=⟨by have h:=(G.G (j:=0) ZO (by omega) rfl).1;rwa[LX] at h,(G.G (j:=1) ZO (by omega) rfl).1,(G.G (j:=2) ZO (by omega) rfl).1,(G.G (j:=3) ZO (by omega) rfl).1,(G.G (j:=4) ZO (by omega) (by rw[<-EA.out];rfl)).1,(G.G (j:=5) ZO (by omega) (by rw[<-EL.out];rfl)).1⟩
    obtain⟨e0,e1,e2,e3,e4,e5⟩:=C2.out;have AB:=ae ((BS ZN).alloc ly (N #[U r.1.e,J I r.1.L,J I r.1.M,U r.1.H,Y (T (Q ga 0 Z)) r.1.h ca,Y (T (Q O 0 Z)) r.1.f cl] 46));have YB:=ae (gM ZN (N #[U r.1.e,J I r.1.L,J I r.1.M,U r.1.H,Y (T (Q ga 0 Z)) r.1.h ca,Y (T (Q O 0 Z)) r.1.f cl] 46));have l:=ae (G.aa AB);have hwm:IntKind.i64.wrap (((m+1:Nat):Int) - 1)=(m:Int):=by rw[p9];omega
    have hwm2:IntKind.i64.wrap (m:Int)=(m:Int):=by rw[p9];omega
    have hml:m<D.length:=by omega
    have Jj:(m:Int)+1<(D.length:Int):=by omega
    have hk2:(0:Int)<=(m:Int)+1:=by omega
    have Jw:((m:Int)+1).toNat=m+1:=by omega
    go_upto_region 41 with fail;generalize World.alloc ZN _=v2 at l YB ⊢;have IL:z (B ZN)≠g:=by have:=G.gb.2.1;omega
    generalize (z (B ZN))=yb at YB IL ⊢;clear bx e0 e1 e2 e3 e4 e5 C2 AB G;refine aH (λV=>A V (Q X 0 Z)=T (Y (T (Q g 0 Z)) D.length c1)/\DC V g (m*6) r1.1 gb cb gm cm) 10 (by kernel_rfl) ?_;have C:=ae (l.aa br.drew);have Id:Hid (v2.drew.heap[yb]?=T (N #[U r.1.e,J I r.1.L,J I r.1.M,U r.1.H,Y (T (Q ga 0 Z)) r.1.h ca,Y (T (Q O 0 Z)) r.1.f cl] 46 (0,0))):=YB.out;clear l YB;generalize v2.drew=ZQ at C Id ⊢;have ZS:Hid (A ZQ (Q X 0 Z)=T (Y (T (Q g 0 Z)) D.length c1)/\DC ZQ g (m*6) r1.1 gb cb gm cm):=⟨C.l.1,by have h:=(C.G (j:=0) ld (by omega) rfl).1;rwa[LX] at h,(C.G (j:=1) ld (by omega) rfl).1,(C.G (j:=2) ld (by omega) rfl).1,(C.G (j:=3) ld (by omega) rfl).1,(C.G (j:=4) ld (by omega) (by rw[<-EB.out];rfl)).1,(C.G (j:=5) ld (by omega) (by rw[<-EM.out];rfl)).1⟩
    iterate 9
     refine aK 0 (v:=?_) rfl rfl (by kernel_rfl) (λ_ _ _ h=>h) rfl ?_ ZS ?_;rotate_left
     ·(rintro wz ⟨s0,s1,s2,s3,s4,s5,s6⟩;go_simp)
      (try with_reducible rfl)
     (try simp only[Act.put,nzL])
    refine aj (i:=9) rfl (by kernel_rfl) λK ZT=>?_;go_simp;refine ZT _ _ (λ_=>ZS) ?_;clear ZT K
    (try simp only[Act.put,nzL])
    have F4:Hid (∀j,j<6->ZQ.frozen? ⟨g,(m+1)*6+j,Z⟩=ZA/\∃u,ZQ.cell? ⟨g,(m+1)*6+j,Z⟩=T u):=λj hj=>by have h:=C.G (j:=j) ZO hj (gq (show j<(ddV r).length from hj));exact⟨h.2,_,h.1⟩
    obtain⟨y0,u0,d0⟩:=F4.out 0 (by omega);obtain⟨y1,u1,d1⟩:=F4.out 1 (by omega);obtain⟨y2,u2,d2⟩:=F4.out 2 (by omega);obtain⟨y3,u3,d3⟩:=F4.out 3 (by omega);obtain⟨y4,u4,d4⟩:=F4.out 4 (by omega);obtain⟨y5,u5,d5⟩:=F4.out 5 (by omega);rw[LX] at y0 d0;have ID:=C.gb.2.1;have S5:=ae (C.six ZO (r1.1,Y (T (Q gb 0 Z)) r1.1.h cb,Y (T (Q gm 0 Z)) r1.1.f cm) ((C.row.sub r1 Hx).form EB EM) Jn);have H6:=ae ((fe ZQ g (m+1) yb (r1.1,Y (T (Q gb 0 Z)) r1.1.h cb,Y (T (Q gm 0 Z)) r1.1.f cm) IL).trans Id);have T5:Hid (DSub (iF ZQ g (m+1) (r1.1,Y (T (Q gb 0 Z)) r1.1.h cb,Y (T (Q gm 0 Z)) r1.1.f cm)) (z (B w)+2) (r.1,Y (T (Q ga 0 Z)) r.1.h ca,Y (T (Q O 0 Z)) r.1.f cl)):=by obtain⟨cs,ZR,hg⟩:=C.gb.2.2.2;exact((C.row.sub r HM).form EA EL).six hg
    unfold iF at S5 H6 T5;refine aj (i:=10) rfl (by kernel_rfl) λK ZT=>?_;go_simp;refine ZT _ _ (λh=>absurd rfl h) ?_;clear ZT K ZS
    (try simp only[Act.put,nzL])
    refine be (by kernel_rfl) ?_ _;clear d0 d1 d2 d3 d4 d5 y0 y1 y2 y3 y4 y5 ID F4 C Id;go_upto_region 42 with fail;generalize World.setCell (World.setCell (World.setCell (World.setCell (World.setCell (World.setCell ZQ _ _) _ _) _ _) _ _) _ _) _ _=v5 at S5 H6 T5 ⊢;have mv:Hid ((D.set (m+1) (r1.1,Y (T (Q gb 0 Z)) r1.1.h cb,Y (T (Q gm 0 Z)) r1.1.f cm))[m]?=T r1):=by show _=_;rw[NK (by omega)];exact ld
    have ZI:=ae (S5.six mv (r.1,Y (T (Q ga 0 Z)) r.1.h ca,Y (T (Q O 0 Z)) r.1.f cl) T5 ZL);have bx:=S5.l.1;rw[KQ] at bx;have M:=H6.out;have q0:A v5 (Q yb 0 Z)=T (U r.1.e):=by simp[World.cell?,M]
    have q1:A v5 (Q yb 1 Z)=T (J I r.1.L):=by simp[World.cell?,M]
    have q2:A v5 (Q yb 2 Z)=T (J I r.1.M):=by simp[World.cell?,M]
    have q3:A v5 (Q yb 3 Z)=T (U r.1.H):=by simp[World.cell?,M]
    have q4:A v5 (Q yb 4 Z)=T (Y (T (Q ga 0 Z)) r.1.h ca):=by simp[World.cell?,M]
    have q5:A v5 (Q yb 5 Z)=T (Y (T (Q O 0 Z)) r.1.f cl):=by simp[World.cell?,M]
    have F5:Hid (∀j,j<6->v5.frozen? (Q g (m*6+j) Z)=ZA/\∃u,A v5 (Q g (m*6+j) Z)=T u):=λj hj=>by have h:=S5.G (j:=j) mv hj (gq (show j<(ddV r1).length from hj));exact⟨h.2,_,h.1⟩
    obtain⟨y0,u0,d0⟩:=F5.out 0 (by omega);obtain⟨y1,u1,d1⟩:=F5.out 1 (by omega);obtain⟨y2,u2,d2⟩:=F5.out 2 (by omega);obtain⟨y3,u3,d3⟩:=F5.out 3 (by omega);obtain⟨y4,u4,d4⟩:=F5.out 4 (by omega);obtain⟨y5,u5,d5⟩:=F5.out 5 (by omega);rw[LX] at y0 d0;have gl5:=S5.gb.2.1;clear M S5;go_wp2;go_meet;exact⟨_,_,_,_,by omega,ZI⟩
   ·by_cases h1:(1:Int)<(D.length:Int)
    iterate 2
     ·go_wp2
      go_meet;exact⟨_,_,_,_,by omega,G⟩
  ·as_aux_lemma =>
    have hcap:=jt G.row.y;obtain⟨Hd,hj,aq,n7,Hn⟩:=KZ fR;have Jq:IntKind.i64.wrap ((k:Int)+1)=(k:Int)+1:=by rw[p9];omega
    have Jj:(k:Int)+1<=(D.length:Int):=by omega
    have Jw:((k:Int)+1).toNat=k+1:=by omega
    have hkc:(k:Int)<=(c1:Int):=by omega
    have Jr:(0:Int)<=(k:Int)+1:=by omega
    obtain⟨A2,Jl,Iv⟩:=yP (base:=z (B w)+2) (g:=g) (c:=c1) hk (by omega);have Jd:=ae Iv;clear Iv;go_wp2_with fail;refine aH (λV=>A V (Q X 0 Z)=T (Y (T (Q g 0 Z)) D.length c1)) 13 (by kernel_rfl) ?_;have l:=ae (G.aa br.drew);clear G;generalize ZN.drew=ZQ at l ⊢;have ZS:=ae l.l.1;iterate 4
     refine aK 1 (v:=?_) rfl rfl (by kernel_rfl) (λ_ _ _ h=>h) rfl ?_ ZS ?_;rotate_left
     ·(intro wz s0;go_simp)
      (try with_reducible rfl)
     (try simp only[Act.put,nzL])
    iterate 5
     refine aK 6 (v:=?_) rfl rfl (by kernel_rfl) (λ_ _ _ h=>h) rfl ?_ ZS ?_;rotate_left
     ·(intro wz s0;go_simp)
      (try with_reducible rfl)
     (try simp only[Act.put,nzL])
    clear Jl;refine aj (i:=0) rfl (by kernel_rfl) λK ZT=>?_;go_simp;have IE:=l.lt;have Ji:=l.hX;have A4:=ae ((BS ZQ).alloc ly (N #[] 46));have O4:=ae (LV (base:=z (B w)+2) (e:=46) (size:=6) ZQ #[] 0 (by omega) (by unfold maxLen;omega) rfl);have C:=ae (l.aa A4);have DS:=ae C.l.1;refine ZT _ _ (λ_=>DS) ?_;clear ZT K
    (try simp only[Act.put,nzL])
    refine aj (i:=5) rfl (by kernel_rfl) (λK ZT=>?_);refine aW rfl (.tmp 247) (.tmp 251) 23 rfl (z (B w)+2) 46 Hd (ZG #[U ⟨#[]⟩,J I 0,J I 0,U ⟨#[]⟩,Y Z 0 0,Y Z 0 0]) 6 96 MU hj aq n7 Hn rfl (by decide) (Y (T (Q (z (B ZQ)) 0 Z)) 0 0) 0 [] (by simp[Act.eval]) O4.out (Q g 0 Z) k c1 ((D.take k).flatMap ddV) (by simp[Act.eval]) (by rw[eY ddV 6 (λ_=>rfl),LY,MZ (by omega)]) (AE k C.row.y) (λu hu=>qW D la u (by obtain⟨L,h2,h3⟩:=NE.1 hu;exact NE.2 ⟨L,OH h2,h3⟩)) (by unfold maxLen;omega) (by omega) (by simp;omega) ?_;intro v5 w5 n9 qr H9;simp only[IT,LA] at n9;have B5:=ae (bg A4 qr (by simp) (λj e=>by simp[Value.ownBlock] at e;omega));have Hy:∀j,v5.ownBlock=T j->z (B ZQ)<=j:=λj e=>by
     rcases H9 with h|h;{rw[h] at e;simp[Value.ownBlock] at e;omega};{rw[h] at e;have:=IN e;simp at this;omega}
    have WB:=ae Hy;have O5:=ae n9;have S5:=ae (l.aa B5);have Is:=ae S5.l.1;clear n9 qr H9 Hy C O4 A4 DS ZS;refine ZT _ _ (λ_=>Is) ?_;clear ZT K
    (try simp only[Act.put,nzL])
    obtain⟨a5,c5,rfl⟩:=aQ O5;refine aj (i:=11) rfl (by kernel_rfl) λK ZT=>?_;refine aW rfl (.tmp 252) (.tmp 257) 23 rfl (z (B w)+2) 46 Hd (ZG #[U ⟨#[]⟩,J I 0,J I 0,U ⟨#[]⟩,Y Z 0 0,Y Z 0 0]) 6 96 MU hj aq n7 Hn rfl (by decide) (Y a5 k c5) k ((D.take k).flatMap ddV) (by simp[Act.eval]) O5.out A2 (D.length - (k+1)) (c1 - (k+1)) ((D.drop (k+1)).flatMap ddV) (by simp[Act.eval]) (by rw[eY ddV 6 (λ_=>rfl),LP]) (Jd _ S5.row.y) (λu hu=>qW D la u (by obtain⟨L,h2,h3⟩:=NE.1 hu;exact NE.2 ⟨L,List.mem_of_mem_drop h2,h3⟩)) (by unfold maxLen;omega) (by omega) (by have:=B5.size;omega) ?_;intro v6 w6 bt DE _;have B6:=ae (bg B5 DE (B5.size) (λj e=>WB j e));rw[<-KE] at bt;obtain⟨a6,c6,rfl⟩:=aQ bt;obtain⟨D2,Hh⟩:∃D2,D2=D.take k++D.drop (k+1):=⟨_,rfl⟩
    have G8:D2.length=k+(D.length - (k+1)):=by rw[Hh,eL,LY,LP,MZ (by omega)]
    rw[<-Hh,<-G8] at bt;rw[<-G8];have ZI:=ae (l.aa B6);have Fk:∀L∈D2,L∈D:=λL h2=>by rw[Hh] at h2;exact(wC.1 h2).elim OH List.mem_of_mem_drop
    have S7:=ae (l.box_ B6 bt (λL h2=>ZI.row.sub L (Fk L h2)) (λL h2=>ZI.az L (Fk L h2)) (by omega));clear Hh;have Hk:=ae ZI.l;clear bt DE Fk G8 S5 O5 WB Is;refine ZT _ _ (λ_=>Hk.1) ?_;clear ZT K
    (try simp only[Act.put,nzL])
    refine aj (i:=12) rfl (by kernel_rfl) λK ZT=>?_;go_simp;refine ZT _ _ (λ_=>Hk.1) ?_;clear ZT K
    (try simp only[Act.put,nzL])
    have d0:=Hk.1;have d1:=Hk.2;have Jz:=ZI.lt;refine aj (i:=13) rfl (by kernel_rfl) λK ZT=>?_;go_simp;refine ZT _ _ (λh=>absurd rfl h) ?_;clear ZT K
    (try simp only[Act.put,nzL])
    refine be (by kernel_rfl) ?_ _;clear d0 d1 Jz l ZI;go_wp2;go_meet;exact⟨_,_,_,_,by omega,S7⟩
  ·as_aux_lemma =>
    go_wp2_with fail;refine(ay R _ 3 _ G.rd (by omega) (by omega) (by omega)).mono ?_;rintro e w4 ⟨ZR,rfl,z0,z1,ZP,H⟩;have l:=ae (G.ac H ZP);clear H ZP G;obtain⟨m,hm⟩:∃m:Nat,60+ZR - 1=(m:Int):=⟨(60+ZR - 1).toNat,by omega⟩
    go_wp2_with fail;refine(Jt m _ (by omega)).mono ?_;rintro e w5 ⟨a5,n5,c5,f5,rfl,IQ,Ht,Hw,II⟩;have C:=ae (l.aa Ht);have rs:=C.rs;have r0:A w5 (Q (z (B w)+1) 0 Z)=T (Y Z 0 0):=by simp[World.cell?,rs]
    have f0:w5.frozen? (Q (z (B w)+1) 0 Z)=ZA:=by simp[World.frozen?,rs]
    have l0:=ar rs;have FN:=ae (l.other (ZM:=p+1100) Ht IQ Hw II (by omega));clear rs Ht IQ Hw II;go_wp2;try simp only[Exit.inBlock,Exit.then]
    exact bp (v:=ZG #[Y a5 n5 c5]) (by simp[results,results34,go_sem,r0]) rfl FN.out
  ·skip;have AB:=ae ((BS ZN).alloc ly (N #[U ⟨#[117,110,117,115,101,100]⟩,J I 2,J I 0,U ⟨#[]⟩,Y Z 0 0,Y Z 0 0] 46));have FB:=ae (gM ZN (N #[U ⟨#[117,110,117,115,101,100]⟩,J I 2,J I 0,U ⟨#[]⟩,Y Z 0 0,Y Z 0 0] 46));have l:=ae (G.aa AB);have Ik:z (B w)+2<=z (B ZN):=by have:=G.lt;omega
   have Ip:z (B ZN)≠X:=by have:=G.lt;omega
   have Iq:z (B ZN)≠g:=by have:=G.gb.2.1;omega
   go_wp2_with fail;generalize World.alloc ZN _=v2 at l FB ⊢;generalize (z (B ZN))=fb at FB Ik Ip Iq ⊢;clear AB G;go_loopg [10] D.length (λgh i wr=>∃(k2 q2:Nat) (nm tx:ByteArray) (kd:Int),k2+gh=D.length/\q2<=p+2+k2/\i=J I k2/\nm.size<=5000/\tx.size<=2000+K0/\Hid (SpS ZJ w R X wr q2 (T (Q g 0 Z)) c1 D)/\Hid (wr.heap[fb]?=T (N #[U nm,J I kd,J I 0,U tx,Y Z 0 0,Y Z 0 0] 46 (0,0))));case atStart=>exact⟨0,_,_,_,_,by omega,by omega,rfl,by decide,IH _,l,FB⟩
   case round =>
    clear l FB;obtain⟨k2,q2,nm,tx,kd,hg2,hq2,rfl,Ij,IW,l,FB⟩:=hrel;have hwk:IntKind.i64.wrap ((k2:Int)+1)=(k2:Int)+1:=by rw[p9];omega
    go_upto_region 9 with fail;go_cut [41] (λJv wx=>∃(b1:Bool) (q3:Nat),Jv=ZC b1/\(b1=ZD->k2<D.length)/\q3<=q2+1/\Hid (SpS ZJ w R X wx q3 (T (Q g 0 Z)) c1 D)/\Hid (wx.heap[fb]?=T (N #[U nm,J I kd,J I 0,U tx,Y Z 0 0,Y Z 0 0] 46 (0,0))));case first =>
     by_cases Ic:(k2:Int)<(D.length:Int)
     {go_wp2_with fail;refine(ay R _ 2 _ l.rd (by omega) (by omega) (by omega)).mono ?_;rintro e w4 ⟨ZR,rfl,z0,z1,ZP,H⟩;have C:=ae (l.ac H ZP);have DQ:=ae ((H.block fb (ar FB) (by omega)).trans FB);clear H ZP;go_wp2;go_meet;exact⟨_,_,rfl,λ_=>by omega,by omega,C,DQ⟩};{go_wp2;go_meet;exact⟨_,_,rfl,λh=>by simp at h,by omega,l,FB⟩}
    case rest =>
    clear l FB;obtain⟨b1,q3,rfl,Jy,hq3,l,FB⟩:=hcut;cases b1 with
    |true =>
     have Ic:k2<D.length:=Jy rfl;obtain⟨L,It,Ig⟩:=dr (R:=D) Ic;have mv:=ae It;have Im:=(ur L Ig)
     clear It Ig;have bx:=l.l.1;have IK:=(l.G (j:=1) mv (by omega) rfl).1;by_cases h3:L.1.L=3
     ·rw[h3] at IK;have H3:=ae h3;clear h3;go_wp2;go_roundg (D.length - 1 - k2);case measure=>omega
      case rel=>exact⟨k2+1,q3,nm,tx,kd,by omega,by omega,by go_num,Ij,IW,l,FB⟩
     ·have n3:(L.1.L == 3)=ZA:=by simpa using h3
      go_upto_region 12 with fail;clear bx IK;refine aH (λV=>A V (Q X 0 Z)=T (Y (T (Q g 0 Z)) D.length c1)/\A V (Q g (k2*6) Z)=T (U L.1.e)/\A V (Q g (k2*6+1) Z)=T (J I L.1.L)/\A V (Q g (k2*6+3) Z)=T (U L.1.H)) 19 (by kernel_rfl) ?_;have C:=ae (l.aa br.drew);have DQ:Hid (wc.drew.heap[fb]?=T (N #[U nm,J I kd,J I 0,U tx,Y Z 0 0,Y Z 0 0] 46 (0,0))):=FB.out;clear l FB;generalize wc.drew=ZQ at C DQ ⊢;have ZS:Hid (A ZQ (Q X 0 Z)=T (Y (T (Q g 0 Z)) D.length c1)/\A ZQ (Q g (k2*6) Z)=T (U L.1.e)/\A ZQ (Q g (k2*6+1) Z)=T (J I L.1.L)/\A ZQ (Q g (k2*6+3) Z)=T (U L.1.H)):=⟨C.l.1,by have h:=(C.G (j:=0) mv (by omega) rfl).1;rwa[LX] at h,(C.G (j:=1) mv (by omega) rfl).1,(C.G (j:=3) mv (by omega) rfl).1⟩
      iterate 19
       refine aK 0 (v:=?_) rfl rfl (by kernel_rfl) (λ_ _ _ h=>h) rfl ?_ ZS ?_;rotate_left
       ·(rintro wz ⟨s0,s1,s2,s3⟩;go_simp)
        (try with_reducible rfl)
       (try simp only[Act.put,nzL])
      have M:=DQ.out;have lf:=ar M;have q0:A ZQ (Q fb 0 Z)=T (U nm):=by simp[World.cell?,M]
      have q1:A ZQ (Q fb 1 Z)=T (J I kd):=by simp[World.cell?,M]
      have Jg:A ZQ (Q fb 2 Z)=T (J I 0):=by simp[World.cell?,M]
      have JD:A ZQ (Q fb 3 Z)=T (U tx):=by simp[World.cell?,M]
      have q4:A ZQ (Q fb 4 Z)=T (Y Z 0 0):=by simp[World.cell?,M]
      have q5:A ZQ (Q fb 5 Z)=T (Y Z 0 0):=by simp[World.cell?,M]
      have z0:∀j,ZQ.frozen? (Q fb j Z)=ZA:=λj=>by simp[World.frozen?,M]
      have S5:=ae (C.aside Ik Ip Iq M (U L.1.e) (J I L.1.L) (J I 0) (U L.1.H) (Y Z 0 0) (Y Z 0 0));have Jo:=ae (LBx.six (W:=ZQ) (b:=fb) M (U L.1.e) (J I L.1.L) (J I 0) (U L.1.H) (Y Z 0 0) (Y Z 0 0));clear M;refine aj (i:=19) rfl (by kernel_rfl) λK ZT=>?_;go_simp;refine ZT _ _ (λh=>absurd rfl h) ?_;clear ZT K ZS
      (try simp only[Act.put,nzL])
      refine be (by kernel_rfl) ?_ _;clear q0 q1 Jg JD q4 q5 z0 C DQ;go_wp2;go_roundg (D.length - 1 - k2);case measure=>omega
      case rel=>exact⟨k2+1,q3,L.1.e,L.1.H,L.1.L,by omega,by omega,by go_num,Im.nm,Im.tx,S5,Jo⟩
    |false =>
     have M:=FB.out;have lf:=ar M;have e0:A wc (Q fb 0 Z)=T (U nm):=by simp[World.cell?,M]
     have e1:A wc (Q fb 1 Z)=T (J I kd):=by simp[World.cell?,M]
     have e2:A wc (Q fb 2 Z)=T (J I 0):=by simp[World.cell?,M]
     have e3:A wc (Q fb 3 Z)=T (U tx):=by simp[World.cell?,M]
     have e4:A wc (Q fb 4 Z)=T (Y Z 0 0):=by simp[World.cell?,M]
     have e5:A wc (Q fb 5 Z)=T (Y Z 0 0):=by simp[World.cell?,M]
     clear M;have bx:=l.l.1;have lx:=l.lt;have Ji:=l.hX;obtain⟨Hd,hj,aq,n7,Hn⟩:=KZ fR;have A4:=ae ((BS wc).alloc ly (N #[U nm,J I kd,J I 0,U tx,Y Z 0 0,Y Z 0 0] 46));have O4:Hid ((wc.alloc (N #[U nm,J I kd,J I 0,U tx,Y Z 0 0,Y Z 0 0] 46)).ownsRow (z (B w)+2) 46 6 (Y (T (Q (z (B wc)) 0 Z)) 1 1) 1 [U nm,J I kd,J I 0,U tx,Y Z 0 0,Y Z 0 0]):=lR (cs:=#[U nm,J I kd,J I 0,U tx,Y Z 0 0,Y Z 0 0]) (by omega) (by unfold maxLen;omega) rfl;have C:=ae (l.aa A4);have Jf:=C.l.1;have I5:=C.l.2;go_wp2_with (at_builtin;refine E4 _ rfl (.tmp 71) (.tmp 73) 23 rfl (z (B w)+2) 46 Hd (ZG #[U ⟨#[]⟩,J I 0,J I 0,U ⟨#[]⟩,Y Z 0 0,Y Z 0 0]) 6 96 MU hj aq n7 Hn rfl (by decide) (Y (T (Q (z (B wc)) 0 Z)) 1 1) 1 [U nm,J I kd,J I 0,U tx,Y Z 0 0,Y Z 0 0] (by simp[Act.eval]) O4.out (Q g 0 Z) D.length c1 (D.flatMap ddV) (by simp[Act.eval]) (eY ddV 6 (λ_=>rfl) D) (λj u hu=>C.row.y.cells (g:=g) rfl j u hu) (qW D la) (by unfold maxLen;omega) (by omega) (by simp;omega) ?_;intro v5 w5 Fm Hm IZ;obtain⟨g5,c5,rfl⟩:=df Fm (by omega);have B5:=ae (bg A4 Hm (by simp) (λj e=>by simp[Value.ownBlock] at e;omega));have O5:=ae Fm;have S5:=ae (l.aa B5);obtain⟨I9,Jh⟩:=S5.l;have I7:=S5.lt;clear Fm Hm IZ);obtain⟨D3,n6⟩:∃D3,D3=lO nm tx kd::D:=⟨_,rfl⟩
     have H7:D3.length=1+D.length:=by rw[n6,xT];omega
     have Hc:w5.ownsRow (z (B w)+2) 46 6 (Y (T (Q g5 0 Z)) D3.length c5) D3.length (D3.flatMap ddV):=by rw[H7,n6,LI];exact O5
     have ZI:=ae (l.box_ B5 Hc (λr6 h6=>by
      rw[n6] at h6;rcases A9.1 h6 with rfl|h6;{exact DU _ _ _ _ _}
      ·exact S5.row.sub r6 h6) (λr6 h6=>by
      rw[n6] at h6;rcases A9.1 h6 with rfl|h6;{exact uQ kd Ij (by omega)}
      ·exact S5.az r6 h6) (by omega))
     have UP:Hid ((D3.map (·.2.2)).Pairwise Apt):=by rw[n6];exact Gr IJ nm tx kd
     have hn3:D3.length<=450+ZJ:=by omega
     rw[<-H7];generalize World.setCell w5 _ _=v6 at ZI ⊢;clear Hc n6 H7 O5 B5 S5 C A4 O4 l FB I9 Jh I7 Jf I5 bx lx e0 e1 e2 e3 e4 e5;go_loopg [11,12] D3.length (λgh i _ wr=>∃(k3:Nat) (D4:List DR),k3+gh=D3.length/\i=J I k3/\Hid (D4.length=D3.length)/\Hid (D4.map (·.2)=D3.map (·.2))/\Hid (SpS ZJ w R X wr q3 (T (Q g5 0 Z)) c5 D4));case atStart=>exact⟨0,D3,by omega,rfl,rfl,rfl,ZI⟩
     case round =>
      clear ZI;obtain⟨k3,D4,hg3,rfl,th,Iu,S7⟩:=hrel;have I6:D4.length<=450+ZJ:=by have:=th.out;omega
      have hwk3:IntKind.i64.wrap ((k3:Int)+1)=(k3:Int)+1:=by rw[p9];have:=th.out;omega
      have Jm:=S7.l.1;by_cases Ic:(k3:Int)<(D4.length:Int)
      ·obtain⟨r4,IA,Ir⟩:=dr (R:=D4) (i:=k3) (by omega);have Js:=ae IA;have hln4:=(S7.az r4 Ir).ln;clear IA Ir;go_wp2_with fail;clear Jm;go_loopg [12] r4.1.f (λgh j wr=>∃(j3:Nat) (D5:List DR) (P:DR),j3+gh=r4.1.f/\j=J I j3/\Hid (D5.length=D4.length)/\Hid (D5.map (·.2)=D4.map (·.2))/\Hid (D5[k3]?=T P)/\Hid (P.1.f=r4.1.f)/\Hid (SpS ZJ w R X wr q3 (T (Q g5 0 Z)) c5 D5));case atStart=>exact⟨0,D4,r4,by omega,rfl,rfl,rfl,Js,rfl,S7⟩
       case round =>
        clear S7;obtain⟨j3,D5,P,hg5,rfl,Ha,Hg,n8,ex,S8⟩:=hrel;have JB:k3<D5.length:=by have:=Ha.out;omega
        have Iz:=J2 n8.out;have Hq:=ae Iz;clear Iz;have hln5:P.1.f<=200+ZJ:=by have:=ex.out;omega
        have hwj3:IntKind.i64.wrap ((j3:Int)+1)=(j3:Int)+1:=by rw[p9];have:=ex.out;omega
        obtain⟨al,cl,el⟩:=kO (S8.row.sub P Hq).aq;have EL:=ae el;have JE:=S8.l.1;have Jb:_=T (Value.slice al P.1.f cl):=(S8.G (j:=5) n8 (by omega) (by rw[<-el];rfl)).1;clear el;by_cases hjl:(j3:Int)<(P.1.f:Int)
        ·have Hb:j3<P.1.f:=by omega
         obtain⟨O,Je,e2⟩:=df (S8.row.sub P Hq).aq (by omega);rw[EL.out] at e2;obtain⟨rfl,-,-⟩:=PO e2;clear e2 Je;have OL:Hid (∀V q,SpS ZJ w R X V q (T (Q g5 0 Z)) c5 D5->V.ownsRow (z (B w)+2) 129 4 (Y (T (Q O 0 Z)) P.1.f cl) P.1.f (bY P.1.m P.1.f)):=λV q hV=>by rw[<-EL.out];exact(hV.row.sub P Hq).aq
         have ak:=(cQ (j:=1) (OL _ _ S8) Hb (by omega) rfl).1;cases hask:(P.1.m j3).ask with
         |false =>
          rw[hask] at ak;clear hask;go_wp2;go_roundg (r4.1.f - 1 - j3);case measure=>have:=ex.out;omega
          case rel=>exact⟨j3+1,D5,P,by have:=ex.out;omega,by go_num,Ha,Hg,n8,ex,S8⟩
         |true =>
          rw[hask] at ak;clear hask;go_upto_region 21 with fail;clear JE Jb ak;refine aH (λV=>A V (Q X 0 Z)=T (Y (T (Q g5 0 Z)) D5.length c5)/\A V (Q g5 (k3*6+5) Z)=T (Y (T (Q O 0 Z)) P.1.f cl)/\A V (Q O (j3*4+3) Z)=T (J I (P.1.m j3).G)) 20 (by kernel_rfl) ?_;have S9:=ae (S8.aa br.drew);clear S8;generalize wr.drew=v8 at S9 ⊢;have ZS:Hid (A v8 (Q X 0 Z)=T (Y (T (Q g5 0 Z)) D5.length c5)/\A v8 (Q g5 (k3*6+5) Z)=T (Y (T (Q O 0 Z)) P.1.f cl)/\A v8 (Q O (j3*4+3) Z)=T (J I (P.1.m j3).G)):=⟨S9.l.1,(S9.G (j:=5) n8 (by omega) (by rw[<-EL.out];rfl)).1,(cQ (j:=3) (OL _ _ S9) Hb (by omega) rfl).1⟩
          iterate 18
           refine aK 0 (v:=?_) rfl rfl (by kernel_rfl) (λ_ _ _ h=>h) rfl ?_ ZS ?_;rotate_left
           ·(rintro wz ⟨s0,s1,s2⟩;go_simp)
            (try with_reducible rfl)
           (try simp only[Act.put,nzL])
          generalize IntKind.i64.wrap ((P.1.m j3).G+1)=zz;iterate 2
           refine bU 18 rfl rfl (by kernel_rfl) λK ZT=>?_;go_simp;refine ZT _ _ (λ_=>ZS) ?_;clear ZT K
           (try simp only[Act.put,nzL])
          have d0:=ZS.2.2;have d1:=(cQ (j:=3) (OL _ _ S9) Hb (by omega) rfl).2;have Jc:=((OL _ _ S9).lt O rfl).2;have IU:(D5.map (·.2.2)).Pairwise Apt:=by
           have e3:D5.map (·.2.2)=D3.map (·.2.2):=by have e4:=CV (List.map Prod.snd) (Hg.trans Iu);rw[List.map_map,List.map_map] at e4;exact e4
           rw[e3];exact UP
          have JC:=ae (S9.aq IU n8 EL Hb zz);clear IU;refine aj (i:=20) rfl (by kernel_rfl) λK ZT=>?_;go_simp;refine ZT _ _ (λh=>absurd rfl h) ?_;clear ZT K ZS
          (try simp only[Act.put,nzL])
          refine be (by kernel_rfl) ?_ _;clear d0 d1 Jc S9;go_wp2;go_roundg (r4.1.f - 1 - j3);case measure=>have:=ex.out;omega
          case rel=>exact⟨j3+1,D5.set k3 (atD P.1 j3 zz,P.2),(atD P.1 j3 zz,P.2),by have:=ex.out;omega,by go_num,KQ.trans Ha,(DT n8 _).trans Hg,L8 JB,ex,JC⟩
        ·go_wp2;go_roundg (D3.length - 1 - k3);case measure=>have:=th.out;omega
         case rel=>exact⟨k3+1,D5,by have:=th.out;omega,by go_num,Ha.trans th,Hg.trans Iu,S8⟩
      {go_wp2;go_meet;exact⟨_,_,_,_,by omega,S7⟩}
  all_goals
   as_aux_lemma =>
    first
     |have e:s=0:=h
      subst e;obtain⟨r0,Ii,Hf⟩:=dr (R:=D) (i:=0) (by omega);have H0:=ae Ii;have I8:r0.1.e.size<=5000:=(ur r0 Hf).nm;clear Ii Hf;go_wp2_with fail;refine aH (λV=>A V (Q X 0 Z)=T (Y (T (Q g 0 Z)) D.length c1)/\A V (Q g 0 Z)=T (U r0.1.e)) 16 (by kernel_rfl) ?_;have l:=ae (G.aa br.drew);clear G;generalize ZN.drew=ZQ at l ⊢;have hD0:0<D.length:=by omega
      have ZS:Hid (A ZQ (Q X 0 Z)=T (Y (T (Q g 0 Z)) D.length c1)/\A ZQ (Q g 0 Z)=T (U r0.1.e)):=⟨l.l.1,by have h:=(l.G (k:=0) (j:=0) H0 (by omega) rfl).1;simpa using h⟩
      iterate 8
       refine aK 0 (v:=?_) rfl rfl (by kernel_rfl) (λ_ _ _ h=>h) rfl ?_ ZS ?_;rotate_left
       ·(rintro wz ⟨s0,s1⟩;go_simp)
        (try with_reducible rfl)
       (try simp only[Act.put,nzL])
      refine aK 10 (v:=?_) rfl rfl (by kernel_rfl) (λ_ _ _ h=>h) rfl ?_ ZS ?_;rotate_left
      ·(rintro wz ⟨s0,s1⟩;go_simp)
       (try with_reducible rfl)
      (try simp only[Act.put,nzL])
      refine aj (i:=8) rfl (by kernel_rfl) λK ZT=>?_;go_simp;go_at_call 63;obtain⟨m1,Hi⟩:∃m1:Nat,(61:Int)=(m1:Int):=⟨61,rfl⟩
      rw[Hi];refine(eW ⟨#[110]⟩ m1 _ (by show 1*m1<=4000;omega) (by omega)).mono ?_;rintro e v6 ⟨t,rfl,ht,hw⟩;rw[hw];have Ia:t.size<=5000:=nL ht (by show 1*m1<=5000;omega);clear ht hw;refine ZT _ _ (λ_=>ZS) ?_;clear ZT K
      (try simp only[Act.put,nzL])
      refine od (i:=9) (j:=11) rfl rfl (by kernel_rfl) (λK ZT=>?_) λK ZT=>?_
      focus
       go_simp;have A4:=(BS ZQ).alloc ly (N #[U ⟨#[]⟩,U ⟨#[120,32,121]⟩,U r0.1.e,U t] 9);have HL:Hid ((ZQ.alloc (N #[U ⟨#[]⟩,U ⟨#[120,32,121]⟩,U r0.1.e,U t] 9)).heap[z (B ZQ)]?=T (N #[U ⟨#[]⟩,U ⟨#[120,32,121]⟩,U r0.1.e,U t] 9 (0,0))):=gM ZQ _;have C:=ae (l.aa A4);have Hp:=l.lt;have Hu:=l.hX;have He:z (B ZQ)≠R:=by omega
       clear A4 ZS Hp Hu;generalize World.alloc ZQ _=S at C HL ⊢;generalize (z (B ZQ))=IF at HL He ⊢;have ZS:Hid (A S (Q X 0 Z)=T (Y (T (Q g 0 Z)) D.length c1)/\A S (Q g 0 Z)=T (U r0.1.e)):=⟨C.l.1,by have h:=(C.G (k:=0) (j:=0) H0 (by omega) rfl).1;simpa using h⟩
       refine ZT _ _ (λ_=>ZS) ?_;clear ZT K
       (try simp only[Act.put,nzL])
       refine aj (i:=11) rfl (by kernel_rfl) λK ZT=>?_;go_simp;go_at_call 33;refine(ay R _ 4 _ C.rd (by omega) (by omega) (by omega)).mono ?_;rintro e v5 ⟨z4,rfl,GS,IY,ZP,H⟩;obtain⟨m,rfl⟩:=AD GS;have hm:m<4:=by omega
       have ZI:=ae (C.ac H ZP);have HL:=ae ((H.block IF (ar HL) He).trans HL);clear H ZP C ZS;have ZS:Hid (A v5 (Q X 0 Z)=T (Y (T (Q g 0 Z)) D.length c1)/\A v5 (Q g 0 Z)=T (U r0.1.e)):=⟨ZI.l.1,by have h:=(ZI.G (k:=0) (j:=0) H0 (by omega) rfl).1;simpa using h⟩
       refine ZT _ _ (λ_=>ZS) ?_;clear ZT K
       (try simp only[Act.put,nzL])
      rotate_left
      focus
       go_simp;go_at_call 33;refine(ay R _ 4 _ l.rd (by omega) (by omega) (by omega)).mono ?_;rintro e S ⟨z4,rfl,GS,IY,ZP,H⟩;obtain⟨m,rfl⟩:=AD GS;have hm:m<4:=by omega
       have C:=ae (l.ac H ZP);clear H ZP l ZS;have ZS:Hid (A S (Q X 0 Z)=T (Y (T (Q g 0 Z)) D.length c1)/\A S (Q g 0 Z)=T (U r0.1.e)):=⟨C.l.1,by have h:=(C.G (k:=0) (j:=0) H0 (by omega) rfl).1;simpa using h⟩
       refine ZT _ _ (λ_=>ZS) ?_;clear ZT K
       (try simp only[Act.put,nzL])
       refine aj (i:=9) rfl (by kernel_rfl) λK ZT=>?_;go_simp;have A4:=(BS S).alloc ly (N #[U ⟨#[]⟩,U ⟨#[120,32,121]⟩,U r0.1.e,U t] 9);have HL:Hid ((S.alloc (N #[U ⟨#[]⟩,U ⟨#[120,32,121]⟩,U r0.1.e,U t] 9)).heap[z (B S)]?=T (N #[U ⟨#[]⟩,U ⟨#[120,32,121]⟩,U r0.1.e,U t] 9 (0,0))):=gM S _;have ZI:=ae (C.aa A4);have Hp:=C.lt;have Hu:=C.hX;have He:z (B S)≠R:=by omega
       clear A4 ZS Hp Hu;generalize World.alloc S _=v5 at ZI HL ⊢;generalize (z (B S))=IF at HL He ⊢;have ZS:Hid (A v5 (Q X 0 Z)=T (Y (T (Q g 0 Z)) D.length c1)/\A v5 (Q g 0 Z)=T (U r0.1.e)):=⟨ZI.l.1,by have h:=(ZI.G (k:=0) (j:=0) H0 (by omega) rfl).1;simpa using h⟩
       refine ZT _ _ (λ_=>ZS) ?_;clear ZT K
       (try simp only[Act.put,nzL])
      all_goals
       obtain⟨zz,Jp,hzz⟩:=Ee HL (by decide) (by decide) I8 Ia m hm
       iterate 4
        refine bU 12 rfl rfl (by kernel_rfl) λK ZT=>?_;go_simp;refine ZT _ _ (λ_=>ZS) ?_;clear ZT K
        (try simp only[Act.put,nzL])
       obtain⟨d0,d1⟩:=ZI.G (j:=0) ZO (by omega) rfl;rw[LX] at d0 d1;have O:=ZI.gb.2.1;have S9:=ae (ZI.am (j:=0) (u:=U zz) (r':=({ r.1 with e:=zz },r.2)) ZO (by omega) rfl ((ZI.row.sub r HM).same _ rfl rfl rfl rfl) (ZL.e Jp))
     |have e:s=1:=h
      subst e;go_wp2_with fail;refine aH (λV=>A V (Q X 0 Z)=T (Y (T (Q g 0 Z)) D.length c1)) 7 (by kernel_rfl) ?_;have l:=ae (G.aa br.drew);clear G;generalize ZN.drew=ZQ at l ⊢;have ZS:=ae l.l.1
      iterate 4
       refine aK 0 (v:=?_) rfl rfl (by kernel_rfl) (λ_ _ _ h=>h) rfl ?_ ZS ?_;rotate_left
       ·(intro wz s0;go_simp)
        (try with_reducible rfl)
       (try simp only[Act.put,nzL])
      refine aj (i:=4) rfl (by kernel_rfl) λK ZT=>?_;go_simp;go_at_call 33;refine(ay R _ 5 _ l.rd (by omega) (by omega) (by omega)).mono ?_;rintro e S ⟨z4,rfl,Io,IM,ZP,H⟩;have C:=ae (l.ac H ZP);clear H ZP l ZS;have ZS:=ae C.l.1;refine ZT _ _ (λ_=>ZS) ?_;clear ZT K
      (try simp only[Act.put,nzL])
      iterate 2
       refine bU 5 rfl rfl (by kernel_rfl) λK ZT=>?_;go_simp;refine ZT _ _ (λ_=>ZS) ?_;clear ZT K
       (try simp only[Act.put,nzL])
      obtain⟨d0,d1⟩:=C.G (j:=1) ZO (by omega) rfl;have O:=C.gb.2.1;have S9:=ae (C.am (j:=1) (u:=J I z4) (r':=({ r.1 with L:=z4 },r.2)) ZO (by omega) rfl ((C.row.sub r HM).same _ rfl rfl rfl rfl) (ZL.L z4))
     |have e:s=2:=h
      subst e;go_wp2_with fail;refine aH (λV=>A V (Q X 0 Z)=T (Y (T (Q g 0 Z)) D.length c1)) 8 (by kernel_rfl) ?_;have l:=ae (G.aa br.drew);clear G;generalize ZN.drew=ZQ at l ⊢;have ZS:=ae l.l.1
      iterate 4
       refine aK 0 (v:=?_) rfl rfl (by kernel_rfl) (λ_ _ _ h=>h) rfl ?_ ZS ?_;rotate_left
       ·(intro wz s0;go_simp)
        (try with_reducible rfl)
       (try simp only[Act.put,nzL])
      refine aj (i:=4) rfl (by kernel_rfl) λK ZT=>?_;go_simp;go_at_call 33;refine(ay R _ 8 _ l.rd (by omega) (by omega) (by omega)).mono ?_;rintro e S ⟨z4,rfl,Io,IM,ZP,H⟩;have C:=ae (l.ac H ZP);clear H ZP l ZS;have ZS:=ae C.l.1;refine ZT _ _ (λ_=>ZS) ?_;clear ZT K
      (try simp only[Act.put,nzL])
      have Il:IntKind.i64.wrap (z4 - 1)=z4 - 1:=by rw[p9];omega
      iterate 3
       refine bU 5 rfl rfl (by kernel_rfl) λK ZT=>?_;go_simp;refine ZT _ _ (λ_=>ZS) ?_;clear ZT K
       (try simp only[Act.put,nzL])
      obtain⟨d0,d1⟩:=C.G (j:=2) ZO (by omega) rfl;have O:=C.gb.2.1;have S9:=ae (C.am (j:=2) (u:=J I (z4 - 1)) (r':=({ r.1 with M:=z4 - 1 },r.2)) ZO (by omega) rfl ((C.row.sub r HM).same _ rfl rfl rfl rfl) (ZL.M _))
     |have e:s=3:=h
      subst e;go_wp2_with fail;refine aH (λV=>A V (Q X 0 Z)=T (Y (T (Q g 0 Z)) D.length c1)/\A V (Q g (k*6+3) Z)=T (U r.1.H)) 12 (by kernel_rfl) ?_;have l:=ae (G.aa br.drew);clear G;generalize ZN.drew=ZQ at l ⊢;have ZS:Hid (A ZQ (Q X 0 Z)=T (Y (T (Q g 0 Z)) D.length c1)/\A ZQ (Q g (k*6+3) Z)=T (U r.1.H)):=⟨l.l.1,(l.G (j:=3) ZO (by omega) rfl).1⟩
      have hsz:¬ 9223372036854775807<r.1.H.size+1:=by omega
      have IX:(r.1.H++⟨#[120]⟩).size<=2000+ZJ:=by have e1:(⟨#[120]⟩:ByteArray).size=1:=rfl;rw[MO,e1];omega
      iterate 9
       refine aK 0 (v:=?_) rfl rfl (by kernel_rfl) (λ_ _ _ h=>h) rfl ?_ ZS ?_;rotate_left
       ·(rintro wz ⟨s0,s1⟩;go_simp)
        (try with_reducible rfl)
       (try simp only[Act.put,nzL])
      iterate 3
       refine bU 9 rfl rfl (by kernel_rfl) λK ZT=>?_;go_simp;refine ZT _ _ (λ_=>ZS) ?_;clear ZT K
       (try simp only[Act.put,nzL])
      obtain⟨d0,d1⟩:=l.G (j:=3) ZO (by omega) rfl;have O:=l.gb.2.1;have S9:=ae (l.am (j:=3) (u:=U (r.1.H++⟨#[120]⟩)) (r':=({ r.1 with H:=r.1.H++⟨#[120]⟩ },r.2)) ZO (by omega) rfl ((l.row.sub r HM).same _ rfl rfl rfl rfl) (ZL.H IX))
     |have e:s=4:=h
      subst e;go_wp2_with fail;refine aH (λV=>A V (Q X 0 Z)=T (Y (T (Q g 0 Z)) D.length c1)) 9 (by kernel_rfl) ?_;have l:=ae (G.aa br.drew);clear G;generalize ZN.drew=ZQ at l ⊢;have ZS:=ae l.l.1
      iterate 4
       refine aK 0 (v:=?_) rfl rfl (by kernel_rfl) (λ_ _ _ h=>h) rfl ?_ ZS ?_;rotate_left
       ·(intro wz s0;go_simp)
        (try with_reducible rfl)
       (try simp only[Act.put,nzL])
      refine aj (i:=4) rfl (by kernel_rfl) λK ZT=>?_;go_simp;go_at_call 33;refine(ay R _ 2 _ l.rd (by omega) (by omega) (by omega)).mono ?_;rintro e S ⟨z4,rfl,Io,IM,ZP,H⟩;have C:=ae (l.ac H ZP);clear H ZP l ZS;have ZS:=ae C.l.1;refine ZT _ _ (λ_=>ZS) ?_;clear ZT K
      (try simp only[Act.put,nzL])
      have Il:IntKind.i64.wrap (2000+z4)=2000+z4:=by rw[p9];omega
      refine aj (i:=5) rfl (by kernel_rfl) λK ZT=>?_;go_simp;refine ZT _ _ (λ_=>ZS) ?_;clear ZT K
      (try simp only[Act.put,nzL])
      obtain⟨m0,Hf⟩:∃m0:Nat,2000+z4=(m0:Int):=⟨(2000+z4).toNat,by omega⟩
      rw[Hf];refine aj (i:=6) rfl (by kernel_rfl) λK ZT=>?_;go_simp;go_at_call 63;refine(eW ⟨#[116]⟩ m0 _ (by show 1*m0<=4000;omega) (by omega)).mono ?_;rintro e v6 ⟨t,rfl,ht,hw⟩;rw[hw];have Ia:t.size<=2000+ZJ:=nL ht (by show 1*m0<=2000+ZJ;omega);clear ht hw Il;refine ZT _ _ (λ_=>ZS) ?_;clear ZT K
      (try simp only[Act.put,nzL])
      iterate 2
       refine bU 7 rfl rfl (by kernel_rfl) λK ZT=>?_;go_simp;refine ZT _ _ (λ_=>ZS) ?_;clear ZT K
       (try simp only[Act.put,nzL])
      obtain⟨d0,d1⟩:=C.G (j:=3) ZO (by omega) rfl;have O:=C.gb.2.1;have S9:=ae (C.am (j:=3) (u:=U t) (r':=({ r.1 with H:=t },r.2)) ZO (by omega) rfl ((C.row.sub r HM).same _ rfl rfl rfl rfl) (ZL.H Ia))
     |have e:s=5:=h
      subst e;obtain⟨⟨ga,ca,ea⟩,-⟩:=la.out r HM;have EA:=ae ea;clear ea;go_wp2_with fail;refine aH (λV=>A V (Q X 0 Z)=T (Y (T (Q g 0 Z)) D.length c1)/\A V (Q g (k*6+4) Z)=T (Y (T (Q ga 0 Z)) r.1.h ca)) 13 (by kernel_rfl) ?_;have l:=ae (G.aa br.drew);clear G;generalize ZN.drew=ZQ at l ⊢;have ZS:Hid (A ZQ (Q X 0 Z)=T (Y (T (Q g 0 Z)) D.length c1)/\A ZQ (Q g (k*6+4) Z)=T (Y (T (Q ga 0 Z)) r.1.h ca)):=⟨l.l.1,(l.G (j:=4) ZO (by omega) (by rw[<-EA.out];rfl)).1⟩
      iterate 10
       refine aK 0 (v:=?_) rfl rfl (by kernel_rfl) (λ_ _ _ h=>h) rfl ?_ ZS ?_;rotate_left
       ·(rintro wz ⟨s0,s1⟩;go_simp)
        (try with_reducible rfl)
       (try simp only[Act.put,nzL])
      refine aj (i:=10) rfl (by kernel_rfl) λK ZT=>?_;go_simp;go_at_call 78;refine(AP (l.row.sub r HM) EA l.rd (by omega) Hl (by omega)).mono ?_;rintro e S ⟨L4,g4,c4,rfl,Iw,-,I6,IC,q4,hq4,ZP,H⟩;have C:=ae (l.ac H ZP);have IE:=l.lt;have I4:Hid (S.ownsRow (z (B w)+2) 146 3 (Y (T (Q g4 0 Z)) L4.length c4) L4.length (bV (cZ L4) L4.length)):=by show World.ownsRow _ _ _ _ _ _ _;rw[<-pT];exact aF Iw (by omega)
      have T4:=ae IC;clear H ZP l ZS Iw IC IE;have ZS:Hid (A S (Q X 0 Z)=T (Y (T (Q g 0 Z)) D.length c1)/\A S (Q g (k*6+4) Z)=T (Y (T (Q ga 0 Z)) r.1.h ca)):=⟨C.l.1,(C.G (j:=4) ZO (by omega) (by rw[<-EA.out];rfl)).1⟩
      refine ZT _ _ (λ_=>ZS) ?_;clear ZT K
      (try simp only[Act.put,nzL])
      iterate 2
       refine bU 11 rfl rfl (by kernel_rfl) λK ZT=>?_;go_simp;refine ZT _ _ (λ_=>ZS) ?_;clear ZT K
       (try simp only[Act.put,nzL])
      have d0:=ZS.2;have d1:=(C.G (j:=4) ZO (by omega) rfl).2;have O:=C.gb.2.1;have S9:=ae (C.am (j:=4) (u:=Y (T (Q g4 0 Z)) L4.length c4) (r':=({ r.1 with h:=L4.length,u:=cZ L4 },Y (T (Q g4 0 Z)) L4.length c4,r.2.2)) ZO (by omega) rfl ⟨I4,(C.row.sub r HM).aq⟩ ⟨ZL.nm,ZL.tx,by show L4.length<=200+ZJ;omega,jq T4,ZL.ln,ZL.lsz⟩)
    all_goals
     refine bU 0 rfl rfl (by kernel_rfl) λK ZT=>?_;go_simp;refine ZT _ _ (λh=>absurd rfl h) ?_;clear ZT K ZS
     (try simp only[Act.put,nzL])
     refine be (by kernel_rfl) ?_ _;clear d0 d1 O;go_wp2;go_meet;exact⟨_,_,_,_,by omega,S9⟩
 case rest =>
 clear G;obtain⟨a',c',q',D',Jk,S9⟩:=hcut;have bx:=S9.l.1;have rs:=S9.rs;have r0:A wc (Q (z (B w)+1) 0 Z)=T (Y Z 0 0):=by simp[World.cell?,rs]
 have f0:wc.frozen? (Q (z (B w)+1) 0 Z)=ZA:=by simp[World.frozen?,rs]
 have l0:=ar rs;have FN:=ae (S9.fin (by omega) Jk);clear rs;go_wp2;exact bp (v:=ZG #[Y a' D'.length c']) (by simp[results,results34,go_sem,r0]) rfl FN.out
