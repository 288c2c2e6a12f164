import Derived.Test.YtpmnbjkjpnclaaaGreatDoorPG
import Derived.Test.YtpmnbjkjpnclaaaGreatDoorQW
set_option maxRecDepth 100000
set_option maxHeartbeats 40000000
open Go renaming Addr.mk->Q,Value.slice->Z,Value.string->Y,Value.int->J,Value.bool->ZD,Obj.cells->N,IntKind.i64->I,World->M,TypeId->ZH,World.cell?->A
open Option renaming none->U,some->T
open Bool renaming false->ZA,true->ZG
namespace Go.Proofs.YtpmnbjkjpnclaaaGreatDoor.Vp
open Tryz RowKit Ca
variable {w W:M}{n b m c g R:Nat}{t:ZH}
theorem Iy:∃i:TypeInfo,Tryz.prog.info? 91=T i/\i.zero=T (.agg #[Y ⟨#[]⟩,ZD ZA,ZD ZA,J I 0])/\i.size=4/\i.bytes=32:=L8 iy
theorem mF{base size:Nat}{e:ZH}{cs:Array Value}(hb:base<=w.heap.size)(c:n<=maxLen)(b:cs.size=n*size):(w.alloc (N cs e)).ownsRow base e size (Z (T (Q w.heap.size 0 U)) n n) n cs.toList :=
 ⟨by simpa using b,.inr ⟨w.heap.size,n,cs,rfl,hb,nL w _,n6 _,c,b,by rw[IU];simp[b]⟩⟩
theorem Dl (f:Nat->Link)(h:m<=n):(bq f n).take (m*4)=bq f m:=by
 refine TW λj=>?_;rw[WU];have hn:=jb f n;have hm:=jb f m;by_cases b:j<m*4
 ·have e:j=j / 4*4+j % 4:=by omega
  rw[p6 b,e,jR f (by omega) _ (TX _ (by omega)),jR f (by omega) _ (TX _ (by omega))]
 {rw[gM b,OH (by omega)]}
theorem FW{f:Nat->Link}(h:w.ownsRow b 91 4 (Z (T (Q g 0 U)) n c) n (bq f n))(p:m<=n):w.ownsRow b 91 4 (Z (T (Q g 0 U)) m c) m (bq f m):=by
 refine⟨jb f m,?_⟩;rcases h.2 with ⟨i,_⟩|⟨g',cap,j,i,hb,q,hc,l,r,o⟩
 {cases i}
 ·cases i
  refine .inr ⟨g,c,j,rfl,hb,q,by omega,l,r,?_⟩;rw[<-Dl f p,<-o,List.take_take,QW (by omega)]
theorem vO (f:Nat->Link)(n:Nat)(y:Link):bq f n++cQ y=bq (λi=>if i=n then y else f i) (n+1):=by
 unfold bq;rw[OQ,DN,BO];congr 1;{congr 1;refine WD λi hi=>?_;have:=PE.1 hi;rw[gM (by omega)]};{simp}
theorem FX{i c g f:Int}{fz:Nat × Nat}(h:w.heap[b]?=T (N #[J I i,J I c,J I g,J I f] t fz))(k:Nat)(l:k<4):∃z,A w (Q b k U)=T (J I z):=by
 match k,l with
 |0,_=>exact⟨i,by simp[World.cell?,h]⟩
 |1,_=>exact⟨c,by simp[World.cell?,h]⟩
 |2,_=>exact⟨g,by simp[World.cell?,h]⟩
 |3,_=>exact⟨f,by simp[World.cell?,h]⟩
 |j+4,h5=>exact absurd h5 (by omega)
def nF (W:M)(b:Nat):Nat:=match A W (Q b 5 U) with
 |some (Z _ n _)=>n
 |_=>0
theorem LBx.len{g f i j l:Value}{a:Option Addr}(h:LBx W b g f i j l (Z a n c)):nF W b=n:=by unfold nF;rw[h.cells.2.2.2.2.2]
theorem qF (ZO:Nat)(hNN:200<=ZO/\ZO<=299)(W:M)(R p x g c n:Nat)(f:Nat->Link)(nm tx:ByteArray)(kd F:Int)(G:Option Addr)(H c4:Nat)(w:M)(hO:Only R W w)(hR:R<W.heap.size)(hb:W.heap.size<=x)(hbw:x<=w.heap.size)(hr:Rd w R p)(hp:p<=50000)(DE:w.ownsRow x 91 4 (Z (T (Q g 0 U)) n c) n (bq f n))(hn:n<=ZO)(Fk:∀j,j<n->(f j).e.size<=5000):Calls Tryz.prog 122 #[.pointer (T (Q R 0 U)),.agg #[Y nm,J I kd,J I F,Y tx,Z G H c4,Z (T (Q g 0 U)) n c]] w λe w'=>DL ZO W w R x g (Y nm) (J I kd) (J I F) (Y tx) (Z G H c4) (p+10) e w':=by
 have X:=ae (Iu (v0:=Y nm) (v1:=J I kd) (v2:=J I F) (v3:=Y tx) (v4:=Z G H c4) hO hR hb hbw hr DE Fk);obtain⟨Fm,hi,Bk,DQ,DH⟩:=Iy;clear hO hR hb hbw hr DE Fk;obtain⟨-,-,-,-,-,ZL⟩:=X.bx.cells;have ZQ:=X.bx.lt;by_cases hz:n=0
 ·subst hz;go_enter func122,ntmps122;go_wp2_with fail;generalize World.alloc (World.alloc w _) _=W0 at X ZL ZQ ⊢;clear ZL ZQ;refine(ef R _ _ X.rd (by omega)).mono ?_;rintro e w1 ⟨ln,rfl,Kt,bt,dg⟩;have L1:=ae (X.F dg bt);clear dg bt X;go_wp2_with fail;refine(au R _ 2 _ L1.rd (by omega) (by omega) (by omega)).mono ?_;rintro e O ⟨z,rfl,n9,th,ld,fd⟩;have ZR:=ae (L1.F fd ld);clear fd ld L1;obtain⟨bh,Ku⟩:∃b:Bool,(z=0/\b=ZG)∨(z=1/\b=ZA):=by rcases(show z=0∨z=1 by omega) with h|h<;>simp[h]
  have A3:=(q9 O).alloc ly (N #[Y ln,ZD ZA,ZD bh,J I 0] 91);have h2:=ZR.lt;have h3:=ZR.hbw;have O3:(O.alloc (N #[Y ln,ZD ZA,ZD bh,J I 0] 91)).ownsRow x 91 4 (Z (T (Q O.heap.size 0 U)) 1 1) 1 (bq (λ_=>⟨ln,ZA,bh,0⟩) 1):=mF (cs:=#[Y ln,ZD ZA,ZD bh,J I 0]) (by omega) (by unfold maxLen;omega) rfl;have o:=ae ((ZR.aa A3).setB (qE _ _) O3 (.inr (by omega)) (λj _=>by show ln.size<=5000;omega));obtain⟨-,-,-,-,-,ZL⟩:=ZR.bx.cells;have bz:=ZR.bx.fz 5;have ZQ:=ZR.bx.lt;rw[World.setCell_alloc_past _ _ _ _ ZQ] at o;clear A3 O3;rcases Ku with ⟨rfl,rfl⟩|⟨rfl,rfl⟩
  all_goals
   go_upto_region 3 with fail;generalize World.alloc (World.setCell O _ _) _=W3 at o ⊢;clear ZL bz ZQ;obtain⟨b0,b1,b2,b3,b4,ZL⟩:=o.bx.cells;obtain⟨r0,r1,r2,r3,r4,r5⟩:=o.rs.cells;obtain⟨z0,z1,z2,z3,z4,z5⟩:=al6 o.rs.fz;have ZQ:=o.bx.lt;have lr:=o.rs.lt;have FN:=ae (o.fin (ZO:=ZO) (ZM:=p+10) (by omega) (by omega) (Y nm) (J I kd) (J I F) (Y tx) (Z G H c4) (Z (T (Q O.heap.size 0 U)) 1 1));have FB:=ae (o.rs.six (Y nm) (J I kd) (J I F) (Y tx) (Z G H c4) (Z (T (Q O.heap.size 0 U)) 1 1));go_wp2;generalize World.setCell (World.setCell (World.setCell (World.setCell (World.setCell (World.setCell W3 _ _) _ _) _ _) _ _) _ _) _ _=V at FN FB ⊢;obtain⟨x0,x1,x2,x3,x4,x5⟩:=FB.cells;exact bp (v:=.agg #[Y nm,J I kd,J I F,Y tx,Z G H c4,Z (T (Q O.heap.size 0 U)) 1 1]) (by simp[results,results122,go_sem,x0,x1,x2,x3,x4,x5]) rfl FN.out
 have nz:¬ ((n:Int)=0):=by omega
 go_enter func122,ntmps122;go_wp2_with fail;generalize World.alloc (World.alloc w _) _=W0 at X ZL ZQ ⊢;refine(au R _ (n:Int) _ X.rd (by omega) (by omega) (by omega)).mono ?_;rintro e w1 ⟨z,rfl,n9,th,bt,dg⟩;obtain⟨k,rfl⟩:=AS n9;have E:k<n:=by omega
 have L1:=ae (X.F dg bt);clear dg bt X ZL ZQ n9 th;go_wp2_with fail;refine(au R _ 7 _ L1.rd (by omega) (by omega) (by omega)).mono ?_;rintro e O ⟨s,rfl,hs0,hs1,ld,fd⟩;have ZR:=ae (L1.F fd ld);clear fd ld L1;have hn1:=ZR.nm k E;have SB:Hid (∀V:M,LBx V w.heap.size (Y nm) (J I kd) (J I F) (Y tx) (Z G H c4) (Z (T (Q g 0 U)) n c)->A V (Q w.heap.size 5 U)=T (Z (T (Q g 0 U)) n c)):=λV h=>h.cells.2.2.2.2.2;go_upto_block 0 with fail;go_cut [] (λwx=>∃(q' ZJ ZP ZK:Nat) (f':Nat->Link),q'<=p+10/\ZP<=ZO+1/\Hid (LStD W w R x g (Y nm) (J I kd) (J I F) (Y tx) (Z G H c4) wx q' ZJ ZP ZK f'));case rest =>clear ZR SB hn1;obtain⟨q',ZJ,ZP,ZK,f',hq',JT,l⟩:=hcut;go_upto_region 21 with fail;obtain⟨b0,b1,b2,b3,b4,ZL⟩:=l.bx.cells;obtain⟨r0,r1,r2,r3,r4,r5⟩:=l.rs.cells;obtain⟨z0,z1,z2,z3,z4,z5⟩:=al6 l.rs.fz;have ZQ:=l.bx.lt;have lr:=l.rs.lt;have FN:=ae (l.fin (ZO:=ZO) (ZM:=p+10) (by omega) (by omega) (Y nm) (J I kd) (J I F) (Y tx) (Z G H c4) (Z (T (Q ZJ 0 U)) ZP ZK));have FB:=ae (l.rs.six (Y nm) (J I kd) (J I F) (Y tx) (Z G H c4) (Z (T (Q ZJ 0 U)) ZP ZK));go_wp2;generalize World.setCell (World.setCell (World.setCell (World.setCell (World.setCell (World.setCell wc _ _) _ _) _ _) _ _) _ _) _ _=V at FN FB ⊢;obtain⟨x0,x1,x2,x3,x4,x5⟩:=FB.cells;exact bp (v:=.agg #[Y nm,J I kd,J I F,Y tx,Z G H c4,Z (T (Q ZJ 0 U)) ZP ZK]) (by simp[results,results122,go_sem,x0,x1,x2,x3,x4,x5]) rfl FN.out
 rcases(show(s=0∨s=1∨s=2∨s=3)∨s=4∨s=5∨s=6 by omega) with (rfl|rfl|rfl|rfl)|rfl|rfl|rfl;rotate_left 4
 ·obtain⟨m,rfl⟩:∃m,n=m+1:=⟨n - 1,by omega⟩
  have hcap:=j5 ZR.i;obtain⟨-,-,-,-,-,ZL⟩:=ZR.bx.cells;have bz:=ZR.bx.fz 5;have ZQ:=ZR.bx.lt;have o:=ae (ZR.setB (qE _ _) (FW ZR.i (F6 m)) (.inl rfl) (λj hj=>ZR.nm j (by omega)));have hw:IntKind.i64.wrap (((m+1:Nat):Int) - 1)=(m:Int):=by rw[p9];omega
  go_wp2;go_meet;exact⟨_,_,_,_,_,by omega,by omega,o⟩
 ·go_wp2_with fail;refine aD (λV=>A V (Q w.heap.size 5 U)=T (Z (T (Q g 0 U)) n c)) 10 (by kernel_rfl) ?_;have o:=ae (ZR.aa br.drew);clear ZR;generalize O.drew=t at o ⊢;have r:=ae (SB t o.bx);iterate 6
   refine aI 0 (v:=?_) rfl rfl (by kernel_rfl) (λ_ _ _ h=>h) rfl ?_ r ?_;rotate_left
   ·(intro wz s0;go_simp)
    (try with_reducible rfl)
   (try simp only[Act.put,nzL])
  have e0:=(cX (j:=0) o.i E (by omega) rfl).1;have e1:=(cX (j:=1) o.i E (by omega) rfl).1;have e2:=(cX (j:=2) o.i E (by omega) rfl).1;have e3:=(cX (j:=3) o.i E (by omega) rfl).1;rw[PT] at e0;refine ah (i:=6) rfl (by kernel_rfl) λK q=>?_;go_simp;refine q _ _ (λ_=>r) ?_;clear q K
  (try simp only[Act.put,nzL])
  clear e0 e1 e2 e3;refine ah (i:=7) rfl (by kernel_rfl) λK q=>?_;go_simp;have A4:=(q9 t).alloc ly (N #[Y (f k).e,ZD (f k).ask,ZD (f k).has,J I (f k).L] 91);have l:=ae (o.aa A4);have HN:Hid (∀j u,(cQ (f k))[j]?=T u->(t.alloc (N #[Y (f k).e,ZD (f k).ask,ZD (f k).has,J I (f k).L] 91)).cell? (((Q t.heap.size 0 U):Addr).add j)=T u):=(mF (base:=0) (e:=91) (size:=4) (n:=1) (cs:=#[Y (f k).e,ZD (f k).ask,ZD (f k).has,J I (f k).L]) (E4 _) (by unfold maxLen;omega) rfl).cells rfl;have hl3:=o.lt;have hl3':=o.hbw;have hz3:(t.alloc (N #[Y (f k).e,ZD (f k).ask,ZD (f k).has,J I (f k).L] 91)).heap.size=t.heap.size+1:=by simp
  clear A4 r;have r:=ae (SB _ l.bx);refine q _ _ (λ_=>r) ?_;clear q K
  (try simp only[Act.put,nzL])
  refine ah (i:=8) rfl (by kernel_rfl) (λK q=>?_);refine step_append_lies _ rfl (.tmp 110) (.tmp 116) 44 rfl x 91 Fm (.agg #[Y ⟨#[]⟩,ZD ZA,ZD ZA,J I 0]) 4 32 QV hi Bk DQ DH rfl (by decide) (Z (T (Q g 0 U)) n c) n (bq f n) (by simp[Act.eval]) l.i (Q t.heap.size 0 U) 1 1 (cQ (f k)) (by simp[Act.eval]) rfl HN.out (by simp[cQ,Value.oneCell']) (by omega) (by unfold maxLen;omega) (by omega) (by omega) _ rfl ?_;intro g5 c5 P ZN D aq Fd;rw[vO f n (f k)] at ZN;have G5:=ae D;have O5:=ae ZN;have ro:g5=g∨w.heap.size<=g5:=by
   rcases aq with h|h;{exact .inl (by simpa[Value.ownBlock] using h.symm)};{exact .inr (by omega)}
  have BX:Hid (LBx P w.heap.size (Y nm) (J I kd) (J I F) (Y tx) (Z G H c4) (Z (T (Q g 0 U)) n c)):=l.bx.ab (D.block _ l.bx.lt (λe=>l.gne.1 (by simpa[Value.ownBlock] using e.symm)));clear ZN D aq Fd HN r;have r:=ae (SB P BX);refine q _ _ (λ_=>r) ?_;clear q K
  (try simp only[Act.put,nzL])
  refine ah (i:=9) rfl (by kernel_rfl) λK q=>?_;go_simp;refine q _ _ (λ_=>r) ?_;clear q K
  (try simp only[Act.put,nzL])
  have L6:=ae (l.setB G5 O5 ro (λj hj=>by show(if j=n then f k else f j).e.size<=5000;split;exact hn1;exact l.nm j (by omega)));obtain⟨-,-,-,-,-,ZL⟩:=BX.cells;have bz:=BX.fz 5;have ZQ:=BX.lt;refine ah (i:=10) rfl (by kernel_rfl) λK q=>?_;go_simp;refine q _ _ (λh=>absurd rfl h) ?_;clear q K r
  (try simp only[Act.put,nzL])
  refine aX (by kernel_rfl) ?_ _;clear ZL bz ZQ BX G5 O5 l;go_wp2;go_meet;exact⟨_,_,_,_,_,by omega,by omega,L6⟩
 ·go_wp2_with fail;refine(au R _ 2 _ ZR.rd (by omega) (by omega) (by omega)).mono ?_;rintro e w3 ⟨z,rfl,n9,th,GS,DS⟩;have o:=ae (ZR.F DS GS);clear DS GS ZR hn1 SB E;have hw:IntKind.i64.wrap (200+z)=200+z:=by rw[p9];omega
  go_wp2_with fail;go_loopw [] (λwr=>∃(ZJ ZP ZK:Nat) (f':Nat->Link),ZP<=ZO+1/\Hid (LStD W w R x g (Y nm) (J I kd) (J I F) (Y tx) (Z G H c4) wr (p+1+1+1) ZJ ZP ZK f')) (λwr=>300 - nF wr w.heap.size);case atStart=>exact⟨g,n,c,f,by omega,o⟩
  case round =>
   obtain⟨ZJ,ZP,ZK,f',JT,l⟩:=hrel;obtain⟨-,-,-,-,-,ZL⟩:=l.bx.cells;have ZQ:=l.bx.lt;have ph:=l.lt;have sm:=l.hbw;clear o;by_cases Fd:(ZP:Int)<200+z
   ·have B:=ae (l.aa ((q9 wr).alloc ly (N #[Y ⟨#[97]⟩,ZD ZA,ZD ZG,J I 0] 91)));have HN:Hid (∀j u,(cQ ⟨⟨#[97]⟩,ZA,ZG,0⟩)[j]?=T u->(wr.alloc (N #[Y ⟨#[97]⟩,ZD ZA,ZD ZG,J I 0] 91)).cell? (((Q wr.heap.size 0 U):Addr).add j)=T u):=(mF (base:=0) (e:=91) (size:=4) (n:=1) (cs:=#[Y ⟨#[97]⟩,ZD ZA,ZD ZG,J I 0]) (E4 _) (by unfold maxLen;omega) rfl).cells rfl;have hz5:(wr.alloc (N #[Y ⟨#[97]⟩,ZD ZA,ZD ZG,J I 0] 91)).heap.size=wr.heap.size+1:=by simp
    go_wp2_with (at_builtin;refine wpList_append_lies _ rfl (.tmp 36) (.tmp 38) 44 rfl x 91 Fm (.agg #[Y ⟨#[]⟩,ZD ZA,ZD ZA,J I 0]) 4 32 QV hi Bk DQ DH rfl (by decide) (Z (T (Q ZJ 0 U)) ZP ZK) ZP (bq f' ZP) (by simp[Act.eval]) B.i (Q wr.heap.size 0 U) 1 1 (cQ ⟨⟨#[97]⟩,ZA,ZG,0⟩) (by simp[Act.eval]) rfl HN.out (by simp[cQ,Value.oneCell']) (by omega) (by unfold maxLen;omega) (by omega) (by omega) _ rfl ?_;intro g5 c5 P ZN D aq Hx;have BX:Hid (LBx P w.heap.size (Y nm) (J I kd) (J I F) (Y tx) (Z G H c4) (Z (T (Q ZJ 0 U)) ZP ZK)):=B.bx.ab (D.block _ B.bx.lt (λe=>B.gne.1 (by simpa[Value.ownBlock] using e.symm)));rw[vO f' ZP] at ZN;have ro:g5=ZJ∨w.heap.size<=g5:=(by rcases aq with h|h;exact .inl (by simpa[Value.ownBlock] using h.symm);exact .inr (by omega));have L6:=ae (B.setB D ZN ro (λj hj=>(by show(if j=ZP then (⟨⟨#[97]⟩,ZA,ZG,0⟩:Link) else f' j).e.size<=5000;split;exact(by decide);exact B.nm j (by omega))));obtain⟨-,-,-,-,-,q5⟩:=BX.cells;have qz:=BX.fz 5;have ql:=BX.lt;clear ZN D aq Hx ro);refine⟨⟨g5,ZP+1,c5,_,by omega,L6⟩,?_⟩;have e1:=l.bx.len;have e2:=L6.bx.len;show 300 - nF _ _<300 - nF _ _;rw[e1,e2];omega
   {skip;go_wp2;go_meet;exact⟨_,_,_,_,_,by omega,by omega,l⟩}
 focus
  go_wp2_with fail;refine aD (λV=>A V (Q w.heap.size 5 U)=T (Z (T (Q g 0 U)) n c)) 7 (by kernel_rfl) ?_;have o:=ae (ZR.aa br.drew);clear ZR;generalize O.drew=t at o ⊢;have r:=ae (SB t o.bx)
  iterate 4
   refine aI 0 (v:=?_) rfl rfl (by kernel_rfl) (λ_ _ _ h=>h) rfl ?_ r ?_;rotate_left
   ·(intro wz s0;go_simp)
    (try with_reducible rfl)
   (try simp only[Act.put,nzL])
  refine ah (i:=4) rfl (by kernel_rfl) λK q=>?_;go_simp;go_at_call 87;refine(ef R _ _ o.rd (by omega)).mono ?_;rintro e C ⟨ln,rfl,Kt,S,L⟩;have l:=ae (o.F L S);clear L S o r;have r:=ae (SB C l.bx);refine q _ _ (λ_=>r) ?_;clear q K
  (try simp only[Act.put,nzL])
  iterate 2
   refine cD 5 rfl rfl (by kernel_rfl) λK q=>?_;go_simp;refine q _ _ (λ_=>r) ?_;clear q K
   (try simp only[Act.put,nzL])
  obtain⟨d0,d1⟩:=cX (j:=0) l.i E (by omega) rfl;rw[PT] at d0 d1;have gl:=l.gne.2.2.2;have B:Hid (LStD W w R x g (Y nm) (J I kd) (J I F) (Y tx) (Z G H c4) (C.setCell (Q g (k*4) U) (Y ln)) _ g n c _):=l.setL (j:=0) (y:={ f k with e:=ln }) (u:=Y ln) E (by omega) rfl (by show ln.size<=5000;omega)
 rotate_left;have M1:=True.intro;iterate 2
  focus
   go_wp2_with fail;first|(guard_hyp M1;refine aD (λV=>A V (Q w.heap.size 5 U)=T (Z (T (Q g 0 U)) n c)/\A V (Q g (k*4+1) U)=T (ZD (f k).ask)) 12 (by kernel_rfl) ?_)|refine aD (λV=>A V (Q w.heap.size 5 U)=T (Z (T (Q g 0 U)) n c)/\A V (Q g (k*4+2) U)=T (ZD (f k).has)) 12 (by kernel_rfl) ?_
   have l:=ae (ZR.aa br.drew);clear ZR;generalize O.drew=t at l ⊢;first|(guard_hyp M1;obtain⟨d0,d1⟩:=cX (j:=1) l.i E (by omega) rfl)|obtain⟨d0,d1⟩:=cX (j:=2) l.i E (by omega) rfl
   first|(guard_hyp M1;have r:Hid (A t (Q w.heap.size 5 U)=T (Z (T (Q g 0 U)) n c)/\A t (Q g (k*4+1) U)=T (ZD (f k).ask)):=⟨SB t l.bx,d0⟩)|have r:Hid (A t (Q w.heap.size 5 U)=T (Z (T (Q g 0 U)) n c)/\A t (Q g (k*4+2) U)=T (ZD (f k).has)):=⟨SB t l.bx,d0⟩
   clear d0
   iterate 10
    refine aI 0 (v:=?_) rfl rfl (by kernel_rfl) (λ_ _ _ h=>h) rfl ?_ r ?_;rotate_left
    ·(rintro wz ⟨s0,s1⟩;go_simp)
     (try with_reducible rfl)
    (try simp only[Act.put,nzL])
   iterate 2
    refine cD 10 rfl rfl (by kernel_rfl) λK q=>?_;go_simp;refine q _ _ (λ_=>r) ?_;clear q K
    (try simp only[Act.put,nzL])
   have d0:=r.2;have gl:=l.gne.2.2.2;first|(guard_hyp M1;have B:Hid (LStD W w R x g (Y nm) (J I kd) (J I F) (Y tx) (Z G H c4) (t.setCell (Q g (k*4+1) U) (ZD (!(f k).ask))) _ g n c _):=l.setL (j:=1) (y:={ f k with ask:=!(f k).ask }) (u:=ZD (!(f k).ask)) E (by omega) rfl hn1)|have B:Hid (LStD W w R x g (Y nm) (J I kd) (J I F) (Y tx) (Z G H c4) (t.setCell (Q g (k*4+2) U) (ZD (!(f k).has))) _ g n c _):=l.setL (j:=2) (y:={ f k with has:=!(f k).has }) (u:=ZD (!(f k).has)) E (by omega) rfl hn1
  rotate_left
 focus
  go_wp2_with fail;refine aD (λV=>A V (Q w.heap.size 5 U)=T (Z (T (Q g 0 U)) n c)/\A V (Q g (k*4+3) U)=T (J I (f k).L)) 17 (by kernel_rfl) ?_;have o:=ae (ZR.aa br.drew);clear ZR;generalize O.drew=t at o ⊢;have r:Hid (A t (Q w.heap.size 5 U)=T (Z (T (Q g 0 U)) n c)/\A t (Q g (k*4+3) U)=T (J I (f k).L)):=⟨SB t o.bx,(cX (j:=3) o.i E (by omega) rfl).1⟩
  iterate 10
   refine aI 0 (v:=?_) rfl rfl (by kernel_rfl) (λ_ _ _ h=>h) rfl ?_ r ?_;rotate_left
   ·(rintro wz ⟨s0,s1⟩;go_simp)
    (try with_reducible rfl)
   (try simp only[Act.put,nzL])
  refine aI 11 (v:=?_) rfl rfl (by kernel_rfl) (λ_ _ _ h=>h) rfl ?_ r ?_;rotate_left
  ·(rintro wz ⟨s0,s1⟩;go_simp)
   (try with_reducible rfl)
  (try simp only[Act.put,nzL])
  generalize IntKind.i64.wrap ((f k).L+1)=ax;refine uQ (i:=10) (j:=12) rfl rfl (by kernel_rfl) (λK q=>?_) λK q=>?_
  focus
   go_simp;have A4:=(q9 t).alloc ly (N #[J I (-1),J I 0,J I ax,J I 400] 3);have ZI:Hid ((t.alloc (N #[J I (-1),J I 0,J I ax,J I 400] 3)).heap[t.heap.size]?=T (N #[J I (-1),J I 0,J I ax,J I 400] 3 (0,0))):=nL t _;have l:=ae (o.aa A4);have ph:=o.lt;have sm:=o.hbw;have At:=o.hR;have ur:=o.hb;have qr:t.heap.size≠R:=by omega
   clear A4 r ph sm At ur;generalize World.alloc t _=C at l ZI ⊢;generalize t.heap.size=Fn at ZI qr ⊢;have r:Hid (A C (Q w.heap.size 5 U)=T (Z (T (Q g 0 U)) n c)/\A C (Q g (k*4+3) U)=T (J I (f k).L)):=⟨SB C l.bx,(cX (j:=3) l.i E (by omega) rfl).1⟩
   refine q _ _ (λ_=>r) ?_;clear q K
   (try simp only[Act.put,nzL])
   refine ah (i:=12) rfl (by kernel_rfl) λK q=>?_;go_simp;go_at_call 40;refine(au R _ 4 _ l.rd (by omega) (by omega) (by omega)).mono ?_;rintro e P ⟨z4,rfl,mv,Id,S,L⟩;obtain⟨m,rfl⟩:=AS mv;have hm:m<4:=by omega
   have B:=ae (l.F L S);have ZI:=ae ((L.block Fn (ag ZI) qr).trans ZI);clear L S l r;have r:Hid (A P (Q w.heap.size 5 U)=T (Z (T (Q g 0 U)) n c)/\A P (Q g (k*4+3) U)=T (J I (f k).L)):=⟨SB P B.bx,(cX (j:=3) B.i E (by omega) rfl).1⟩
   refine q _ _ (λ_=>r) ?_;clear q K
   (try simp only[Act.put,nzL])
  rotate_left
  focus
   go_simp;go_at_call 40;refine(au R _ 4 _ o.rd (by omega) (by omega) (by omega)).mono ?_;rintro e C ⟨z4,rfl,mv,Id,S,L⟩;obtain⟨m,rfl⟩:=AS mv;have hm:m<4:=by omega
   have l:=ae (o.F L S);clear L S o r;have r:Hid (A C (Q w.heap.size 5 U)=T (Z (T (Q g 0 U)) n c)/\A C (Q g (k*4+3) U)=T (J I (f k).L)):=⟨SB C l.bx,(cX (j:=3) l.i E (by omega) rfl).1⟩
   refine q _ _ (λ_=>r) ?_;clear q K
   (try simp only[Act.put,nzL])
   refine ah (i:=10) rfl (by kernel_rfl) λK q=>?_;go_simp;have A4:=(q9 C).alloc ly (N #[J I (-1),J I 0,J I ax,J I 400] 3);have ZI:Hid ((C.alloc (N #[J I (-1),J I 0,J I ax,J I 400] 3)).heap[C.heap.size]?=T (N #[J I (-1),J I 0,J I ax,J I 400] 3 (0,0))):=nL C _;have B:=ae (l.aa A4);have ph:=l.lt;have sm:=l.hbw;have At:=l.hR;have ur:=l.hb;have qr:C.heap.size≠R:=by omega
   clear A4 r ph sm At ur;generalize World.alloc C _=P at B ZI ⊢;generalize C.heap.size=Fn at ZI qr ⊢;have r:Hid (A P (Q w.heap.size 5 U)=T (Z (T (Q g 0 U)) n c)/\A P (Q g (k*4+3) U)=T (J I (f k).L)):=⟨SB P B.bx,(cX (j:=3) B.i E (by omega) rfl).1⟩
   refine q _ _ (λ_=>r) ?_;clear q K
   (try simp only[Act.put,nzL])
  all_goals
   have l:=B;clear B;obtain⟨zz,hzz⟩:=FX ZI m hm
   iterate 4
    refine cD 13 rfl rfl (by kernel_rfl) λK q=>?_;go_simp;refine q _ _ (λ_=>r) ?_;clear q K
    (try simp only[Act.put,nzL])
   have d0:=r.2;have d1:=(cX (j:=3) l.i E (by omega) rfl).2;have gl:=l.gne.2.2.2;have B:Hid (LStD W w R x g (Y nm) (J I kd) (J I F) (Y tx) (Z G H c4) (P.setCell (Q g (k*4+3) U) (J I zz)) _ g n c _):=l.setL (j:=3) (y:={ f k with L:=zz }) (u:=J I zz) E (by omega) rfl hn1
 all_goals
  refine cD 0 rfl rfl (by kernel_rfl) λK q=>?_;go_simp;refine q _ _ (λh=>absurd rfl h) ?_;clear q K r
  (try simp only[Act.put,nzL])
  refine aX (by kernel_rfl) ?_ _;clear d0 d1 gl l;go_wp2;go_meet;exact⟨_,_,_,_,_,by omega,by omega,B⟩
abbrev DC (V:M)(g q:Nat)(d:Deed)(c f b h:Nat):Prop:=A V (Q g q U)=T (Y d.e)/\A V (Q g (q+1) U)=T (J I d.m)/\A V (Q g (q+2) U)=T (J I d.E)/\A V (Q g (q+3) U)=T (Y d.B)/\A V (Q g (q+4) U)=T (Z (T (Q c 0 U)) d.f f)/\A V (Q g (q+5) U)=T (Z (T (Q b 0 U)) d.b h)
theorem pB{f c g i:ByteArray}{fz:Nat × Nat}(h:w.heap[b]?=T (N #[Y f,Y c,Y g,Y i] t fz))(m:f.size<=5000)(h1:c.size<=5000)(h2:g.size<=5000)(h3:i.size<=5000)(k:Nat)(l:k<4):∃s:ByteArray,s.size<=5000/\A w (Q b k U)=T (Y s):=by
 match k,l with
 |0,_=>exact⟨f,m,by simp[World.cell?,h]⟩
 |1,_=>exact⟨c,h1,by simp[World.cell?,h]⟩
 |2,_=>exact⟨g,h2,by simp[World.cell?,h]⟩
 |3,_=>exact⟨i,h3,by simp[World.cell?,h]⟩
 |j+4,h5=>exact absurd h5 (by omega)
theorem DP.up{q lo:Nat}{e:Ending}{w':M}(h:DP w R q lo n e w')(hn:n<=m):DP w R q lo m e w':=by obtain⟨L,g,c,h1,h2,h3,h4,b⟩:=h;exact⟨L,g,c,h1,h2,h3,p7 h4 hn,b⟩
theorem Dm{K:Nat}{p f:Nat}{r:DR}(h:DSub W g r)(o:r.2.1=Z (T (Q c 0 U)) r.1.f f)(hR:Rd W R p)(l:p<=20000)(i:FitK K r.1)(hK:K<=80):Calls Tryz.prog 96 #[.pointer (T (Q R 0 U)),.agg #[Z (T (Q c 0 U)) r.1.f f]] W λe m=>DP W R (p+1000) 0 (200+K+1) e m:=by
 by_cases j:r.1.f=0;{rw[j];exact(xv R p c f W hR l).mono λ_ _ h=>h.up (by omega)}
 ·obtain⟨a,cap,e,s⟩:=h.ins;rw[o] at e;obtain⟨rfl,-,-⟩:=TM e;rcases s with h1|⟨b,off,q,n⟩
  {exact absurd h1 j}
  ·cases q
   exact vw (200+K) ⟨by omega,by omega⟩ R p c f r.1.f r.1.H W hR l n ⟨by omega,i.an⟩ i.asz
theorem Dn (Ku:Gz)(K0 ZK:Nat)(hK0:K0+1<=ZK)(hKK:ZK<=50)(R p:Nat)(a:Option Addr)(n cap:Nat)(f:Nat->Deed)(w:M)(hf:SlDeed w a n f)(La:∀i,i<n->FitK K0 (f i))(hn:n<=450+K0)(hR:Rd w R p)(hp:p<=19000):Calls Tryz.prog 66 #[.pointer (T (Q R 0 U)),.agg #[Z a n cap]] w λe w'=>DAK ZK w R (p+1100) e w':=by
 have MK:=ae Ku;clear Ku;have HF:=ae hf;have KU:=ae La;have HR:=ae hR;have KV:=hR.lt;clear hf La hR;have A0:=ae (((q9 w).alloc ly (N #[Z a n cap] 37)).alloc (by simp) (N #[Z U 0 0] 37));have KN:Hid (((w.alloc (N #[Z a n cap] 37)).alloc (N #[Z U 0 0] 37)).heap[w.heap.size+1]?=T (N #[Z U 0 0] 37 (0,0))):=by have h:=nL (w.alloc (N #[Z a n cap] 37)) (N #[Z U 0 0] 37);rw[show(w.alloc (N #[Z a n cap] 37)).heap.size=w.heap.size+1 by simp] at h;exact h
 have aq:((w.alloc (N #[Z a n cap] 37)).alloc (N #[Z U 0 0] 37)).heap.size=w.heap.size+2:=by simp
 go_enter func66,ntmps66;go_wp2_with fail;generalize World.alloc (World.alloc w _) _=W0 at A0 KN aq ⊢;refine(CR a n cap f _ (by omega) (HF.aa A0 ly) (λi hi=>((KU i hi).d (by omega)).fits)).mono ?_;rintro e w1 ⟨a1,c1,D,rfl,hD,GS,KZ,ur⟩;have mv:=ae KZ;have Lz:=ae hD.up;clear KZ;have hl:D.length=n:=by have:=wA List.length GS;simpa using this
 have DH:Hid (∀r∈D,FitK K0 r.1):=λr hr=>by have hm:r.1∈D.map (·.1):=QP.2 ⟨r,hr,rfl⟩;rw[GS] at hm;obtain⟨i,hi,e⟩:=QP.1 hm;rw[<-e];exact KU i (PE.1 hi)
 have Mc:=ur.size;have B2:=(q9 w1).alloc ly (N #[Z a1 D.length c1] 37);have S1:Hid (SpS ZK w R w1.heap.size (w1.alloc (N #[Z a1 D.length c1] 37)) p a1 c1 D):=by have O1:Only R w w1:=(Only.u A0).trans (Only.u (ur.mono (by omega)));exact⟨((HR.aa A0 ly).aa ur (by omega)).aa B2 ly,O1.trans (Only.u B2),(B2.block _ (by omega)).trans ((ur.block _ (by omega)).trans KN),nL w1 _,((hD.rw.aa B2 ly).mono (by omega)),λr hr=>(DH r hr).up (by omega),KV,by omega,by omega⟩
 have hX:w.heap.size+2<=w1.heap.size:=by omega
 have hD9:D.length<=450+K0:=by omega
 clear hD ur B2 Mc aq A0 KN HF KU HR GS hl;go_upto_region 2 with fail;generalize World.alloc w1 _=W1 at S1 ⊢;generalize w1.heap.size=X at S1 hX ⊢;have bx:=S1.G.1;by_cases hz:D.length=0
 ·obtain rfl:D=[]:=PL.1 hz;rw[nX] at bx;clear hz;go_wp2_with fail;refine(au R _ 2 _ S1.rd (by omega) (by omega) (by omega)).mono ?_;rintro e w2 ⟨x,rfl,x0,x1,Bk,DE⟩;have F:=ae (S1.F DE Bk);clear DE Bk S1 bx;go_wp2_with fail;refine(au R _ 3 _ F.rd (by omega) (by omega) (by omega)).mono ?_;rintro e ZQ ⟨y,rfl,y0,y1,Fk,DQ⟩;have l:=ae (F.F DQ Fk);clear DQ Fk F;obtain⟨m,hm⟩:∃m:Nat,400*x+y=(m:Int):=⟨(400*x+y).toNat,by omega⟩
  have MF:IntKind.i64.wrap (400*x)=400*x:=by rw[p9];omega
  have Mq:m<=450:=by omega
  have hw2:IntKind.i64.wrap (m:Int)=(m:Int):=by rw[p9];omega
  have hmk:=λw=>IQ m (by omega) w;have rs:=l.rs;have r0:A ZQ (Q (w.heap.size+1) 0 U)=T (Z U 0 0):=by simp[World.cell?,rs]
  have f0:ZQ.frozen? (Q (w.heap.size+1) 0 U)=ZA:=by simp[World.frozen?,rs]
  have l0:=ag rs;have FN:=ae (CY (m:=m) (ZM:=p+1100) l Mq (by omega));clear rs;go_wp2;exact bp (v:=.agg #[Z (T (Q ZQ.heap.size 0 U)) m m]) (by simp[results,results66,go_sem,r0,l0]) rfl FN.out
 obtain⟨g,MO,e⟩:=cC S1.row.i (by omega);obtain⟨rfl,-,-⟩:=TM e;clear e MO;have nz:¬ ((D.length:Int)=0):=by omega
 go_wp2_with fail;refine(au R _ (D.length:Int) _ S1.rd (by omega) (by omega) (by omega)).mono ?_;rintro e w2 ⟨z,rfl,aq,qr,Bk,DE⟩;obtain⟨k,rfl⟩:=AS aq;have hk:k<D.length:=by omega
 have S0:=ae (S1.F DE Bk);clear DE Bk S1 aq qr bx;obtain⟨r,hr,hm⟩:=cZ hk;have ZP:=ae hr;have HM:=ae hm;clear hr hm;go_wp2_with fail;refine(au R _ 13 _ S0.rd (by omega) (by omega) (by omega)).mono ?_;rintro e ZQ ⟨s,rfl,hs0,Mc,Fk,DQ⟩;have F:=ae (S0.F DQ Fk);clear DQ Fk S0;have Kz:=DH r HM;have ZL:=Kz.up (show K0<=ZK by omega);have htx:=Kz.tx;have My:=Kz.ln;go_upto_block 0 with fail;go_cut [8,9,10,11,12] (λ_ _ _ _ _ wx=>∃(a':Option Addr) (c' q':Nat) (D':List DR),q'<=p+1100/\Hid (SpS ZK w R X wx q' a' c' D'));case first =>
  rcases(show(s=0∨s=1∨s=2∨s=3∨s=4∨s=5)∨(s=6∨s=7∨s=8)∨s=9∨s=10∨s=11∨s=12 by omega) with (h|h|h|h|h|h)|h6|rfl|rfl|rfl|rfl;rotate_left 6
  ·as_aux_lemma =>
    obtain⟨⟨ga,ca,ea⟩,ZO,cl,el⟩:=mv.out r HM;have EA:=ae ea;have EL:=ae el;clear ea el;rcases h6 with rfl|rfl|rfl;iterate 3
     ·go_wp2_with fail
      refine aD (λV=>A V (Q X 0 U)=T (Z (T (Q g 0 U)) D.length c1)/\DC V g (k*6) r.1 ga ca ZO cl) 11 (by kernel_rfl) ?_;have l:=ae (F.aa br.drew);clear F;generalize ZQ.drew=E at l ⊢;have B:Hid (A E (Q X 0 U)=T (Z (T (Q g 0 U)) D.length c1)/\DC E g (k*6) r.1 ga ca ZO cl):=⟨l.G.1,by have h:=(l.L (j:=0) ZP (by omega) rfl).1;rwa[PT] at h,(l.L (j:=1) ZP (by omega) rfl).1,(l.L (j:=2) ZP (by omega) rfl).1,(l.L (j:=3) ZP (by omega) rfl).1,(l.L (j:=4) ZP (by omega) (by rw[<-EA.out];rfl)).1,(l.L (j:=5) ZP (by omega) (by rw[<-EL.out];rfl)).1⟩
      iterate 9
       refine aI 0 (v:=?_) rfl rfl (by kernel_rfl) (λ_ _ _ h=>h) rfl ?_ B ?_;rotate_left
       ·(rintro wz ⟨s0,s1,s2,s3,s4,s5,s6⟩;go_simp)
        (try with_reducible rfl)
       (try simp only[Act.put,nzL])
      refine ah (i:=9) rfl (by kernel_rfl) λK ZR=>?_;go_simp;go_at_call 122;refine(qF (200+K0) ⟨by omega,by omega⟩ w R _ (w.heap.size+2) ZO cl r.1.b r.1.D r.1.e r.1.B r.1.m r.1.E (T (Q ga 0 U)) r.1.f ca _ l.o KV (by omega) (by have:=l.lt;omega) l.rd (by omega) (by rw[<-EL.out];exact(l.row.sub r HM).V) My ZL.lsz).mono ?_;rintro e O ⟨g5,n5,c5,f5,rfl,KM,Lg,LF,⟨q5,hq5,LJ⟩,LQ,fd⟩;obtain⟨kX,kg,LI⟩:=l.kept HM EL fd;have ZI:Hid (SpS ZK w R X (js O g k ({ r.1 with b:=n5,D:=f5 },Z (T (Q ga 0 U)) r.1.f ca,Z (T (Q g5 0 U)) n5 c5)) q5 (T (Q g 0 U)) c1 _):=l.am Lz ZP HM EL LJ LQ fd _ ⟨l.actK HM EA EL fd,KM⟩ ⟨ZL.nm,ZL.tx,ZL.an,ZL.asz,by show n5<=200+ZK;omega,LF⟩;have F4:Hid (∀j,j<6->O.frozen? (Q g (k*6+j) U)=ZA):=λj hj=>(JN (a:=(Q g (k*6+j) U)) kg).trans (l.L (j:=j) ZP hj (gq (show j<(ddV r).length from hj))).2;have DS:Hid (A O (Q X 0 U)=T (Z (T (Q g 0 U)) D.length c1)/\DC O g (k*6) r.1 ga ca ZO cl):=⟨(cq (a:=(Q X 0 U)) kX).trans B.1,(cq (a:=(Q g (k*6) U)) kg).trans B.2.1,(cq (a:=(Q g (k*6+1) U)) kg).trans B.2.2.1,(cq (a:=(Q g (k*6+2) U)) kg).trans B.2.2.2.1,(cq (a:=(Q g (k*6+3) U)) kg).trans B.2.2.2.2.1,(cq (a:=(Q g (k*6+4) U)) kg).trans B.2.2.2.2.2.1,(cq (a:=(Q g (k*6+5) U)) kg).trans B.2.2.2.2.2.2⟩
      clear LJ LQ fd KM LF kX kg B l;have B:=DS;clear DS;refine ZR _ _ (λ_=>B) ?_;clear ZR K
      (try simp only[Act.put,nzL])
      refine ah (i:=10) rfl (by kernel_rfl) λK ZR=>?_;go_simp;refine ZR _ _ (λ_=>B) ?_;clear ZR K
      (try simp only[Act.put,nzL])
      obtain⟨-,d0,d1,d2,d3,d4,d5⟩:=B.out;have y0:=F4.out 0 (by omega);have y1:=F4.out 1 (by omega);have y2:=F4.out 2 (by omega);have y3:=F4.out 3 (by omega);have y4:=F4.out 4 (by omega);have y5:=F4.out 5 (by omega);rw[PT] at y0;refine ah (i:=11) rfl (by kernel_rfl) λK ZR=>?_;go_simp;refine ZR _ _ (λh=>absurd rfl h) ?_;clear ZR K B
      (try simp only[Act.put,nzL])
      refine aX (by kernel_rfl) ?_ _;clear d0 d1 d2 d3 d4 d5 y0 y1 y2 y3 y4 y5;go_wp2;go_meet;exact⟨_,_,_,_,by omega,ZI⟩
  ·skip;by_cases ML:(0:Int)<(k:Int)
   ·obtain⟨m,rfl⟩:∃m,k=m+1:=⟨k - 1,by omega⟩
    have h1l:(1:Int)<(D.length:Int):=by omega
    obtain⟨r1,Lj,KC⟩:=cZ (R:=D) (i:=m) (by omega);have la:=ae Lj;have KJ:=ae KC;clear Lj KC;obtain⟨⟨ga,ca,ea⟩,ZO,cl,el⟩:=mv.out r HM;obtain⟨⟨gb,cb,eb⟩,gm,cm,em⟩:=mv.out r1 KJ;have EA:=ae ea;have EL:=ae el;have EB:=ae eb;have EM:=ae em;clear ea el eb em;have Mx:=((DH r1 KJ).up (show K0<=ZK by omega))
    have bx:=F.G.1;have C2:Hid (DC ZQ g ((m+1)*6) r.1 ga ca ZO cl):=⟨by have h:=(F.L (j:=0) ZP (by omega) rfl).1;rwa[PT] at h,(F.L (j:=1) ZP (by omega) rfl).1,(F.L (j:=2) ZP (by omega) rfl).1,(F.L (j:=3) ZP (by omega) rfl).1,(F.L (j:=4) ZP (by omega) (by rw[<-EA.out];rfl)).1,(F.L (j:=5) ZP (by omega) (by rw[<-EL.out];rfl)).1⟩
    obtain⟨e0,e1,e2,e3,e4,e5⟩:=C2.out;have AB:=ae ((q9 ZQ).alloc ly (N #[Y r.1.e,J I r.1.m,J I r.1.E,Y r.1.B,Z (T (Q ga 0 U)) r.1.f ca,Z (T (Q ZO 0 U)) r.1.b cl] 46));have YB:=ae (nL ZQ (N #[Y r.1.e,J I r.1.m,J I r.1.E,Y r.1.B,Z (T (Q ga 0 U)) r.1.f ca,Z (T (Q ZO 0 U)) r.1.b cl] 46));have l:=ae (F.aa AB);have hwm:IntKind.i64.wrap (((m+1:Nat):Int) - 1)=(m:Int):=by rw[p9];omega
    have hwm2:IntKind.i64.wrap (m:Int)=(m:Int):=by rw[p9];omega
    have hml:m<D.length:=by omega
    have Mm:(m:Int)+1<(D.length:Int):=by omega
    have hk2:(0:Int)<=(m:Int)+1:=by omega
    have MC:((m:Int)+1).toNat=m+1:=by omega
    go_upto_region 41 with fail;generalize World.alloc ZQ _=v2 at l YB ⊢;have LG:ZQ.heap.size≠g:=by have:=F.gb.2.1;omega
    generalize ZQ.heap.size=yb at YB LG ⊢;clear bx e0 e1 e2 e3 e4 e5 C2 AB F;refine aD (λV=>A V (Q X 0 U)=T (Z (T (Q g 0 U)) D.length c1)/\DC V g (m*6) r1.1 gb cb gm cm) 10 (by kernel_rfl) ?_;have C:=ae (l.aa br.drew);have KQ:Hid (v2.drew.heap[yb]?=T (N #[Y r.1.e,J I r.1.m,J I r.1.E,Y r.1.B,Z (T (Q ga 0 U)) r.1.f ca,Z (T (Q ZO 0 U)) r.1.b cl] 46 (0,0))):=YB.out;clear l YB;generalize v2.drew=E at C KQ ⊢;have B:Hid (A E (Q X 0 U)=T (Z (T (Q g 0 U)) D.length c1)/\DC E g (m*6) r1.1 gb cb gm cm):=⟨C.G.1,by have h:=(C.L (j:=0) la (by omega) rfl).1;rwa[PT] at h,(C.L (j:=1) la (by omega) rfl).1,(C.L (j:=2) la (by omega) rfl).1,(C.L (j:=3) la (by omega) rfl).1,(C.L (j:=4) la (by omega) (by rw[<-EB.out];rfl)).1,(C.L (j:=5) la (by omega) (by rw[<-EM.out];rfl)).1⟩
    iterate 9
     refine aI 0 (v:=?_) rfl rfl (by kernel_rfl) (λ_ _ _ h=>h) rfl ?_ B ?_;rotate_left
     ·(rintro wz ⟨s0,s1,s2,s3,s4,s5,s6⟩;go_simp)
      (try with_reducible rfl)
     (try simp only[Act.put,nzL])
    refine ah (i:=9) rfl (by kernel_rfl) λK ZR=>?_;go_simp;refine ZR _ _ (λ_=>B) ?_;clear ZR K
    (try simp only[Act.put,nzL])
    have F4:Hid (∀j,j<6->E.frozen? ⟨g,(m+1)*6+j,U⟩=ZA/\∃u,E.cell? ⟨g,(m+1)*6+j,U⟩=T u):=λj hj=>by have h:=C.L (j:=j) ZP hj (gq (show j<(ddV r).length from hj));exact⟨h.2,_,h.1⟩
    obtain⟨y0,u0,d0⟩:=F4.out 0 (by omega);obtain⟨y1,u1,d1⟩:=F4.out 1 (by omega);obtain⟨y2,u2,d2⟩:=F4.out 2 (by omega);obtain⟨y3,u3,d3⟩:=F4.out 3 (by omega);obtain⟨y4,u4,d4⟩:=F4.out 4 (by omega);obtain⟨y5,u5,d5⟩:=F4.out 5 (by omega);rw[PT] at y0 d0;have LI:=C.gb.2.1;have ZI:=ae (C.six ZP (r1.1,Z (T (Q gb 0 U)) r1.1.f cb,Z (T (Q gm 0 U)) r1.1.b cm) ((C.row.sub r1 KJ).aq EB EM) Mx);have Ld:=ae ((fy E g (m+1) yb (r1.1,Z (T (Q gb 0 U)) r1.1.f cb,Z (T (Q gm 0 U)) r1.1.b cm) LG).trans KQ);have T5:Hid (DSub (js E g (m+1) (r1.1,Z (T (Q gb 0 U)) r1.1.f cb,Z (T (Q gm 0 U)) r1.1.b cm)) (w.heap.size+2) (r.1,Z (T (Q ga 0 U)) r.1.f ca,Z (T (Q ZO 0 U)) r.1.b cl)):=by obtain⟨cs,z,hg⟩:=C.gb.2.2.2;exact((C.row.sub r HM).aq EA EL).six hg
    unfold js at ZI Ld T5;refine ah (i:=10) rfl (by kernel_rfl) λK ZR=>?_;go_simp;refine ZR _ _ (λh=>absurd rfl h) ?_;clear ZR K B
    (try simp only[Act.put,nzL])
    refine aX (by kernel_rfl) ?_ _;clear d0 d1 d2 d3 d4 d5 y0 y1 y2 y3 y4 y5 LI F4 C KQ;go_upto_region 42 with fail;generalize World.setCell (World.setCell (World.setCell (World.setCell (World.setCell (World.setCell E _ _) _ _) _ _) _ _) _ _) _ _=v5 at ZI Ld T5 ⊢;have ld:Hid ((D.set (m+1) (r1.1,Z (T (Q gb 0 U)) r1.1.f cb,Z (T (Q gm 0 U)) r1.1.b cm))[m]?=T r1):=by show _=_;rw[QK (by omega)];exact la
    have ZJ:=ae (ZI.six ld (r.1,Z (T (Q ga 0 U)) r.1.f ca,Z (T (Q ZO 0 U)) r.1.b cl) T5 ZL);have bx:=ZI.G.1;rw[KK] at bx;have L:=Ld.out;have q0:A v5 (Q yb 0 U)=T (Y r.1.e):=by simp[World.cell?,L]
    have q1:A v5 (Q yb 1 U)=T (J I r.1.m):=by simp[World.cell?,L]
    have q2:A v5 (Q yb 2 U)=T (J I r.1.E):=by simp[World.cell?,L]
    have q3:A v5 (Q yb 3 U)=T (Y r.1.B):=by simp[World.cell?,L]
    have q4:A v5 (Q yb 4 U)=T (Z (T (Q ga 0 U)) r.1.f ca):=by simp[World.cell?,L]
    have q5:A v5 (Q yb 5 U)=T (Z (T (Q ZO 0 U)) r.1.b cl):=by simp[World.cell?,L]
    have F5:Hid (∀j,j<6->v5.frozen? (Q g (m*6+j) U)=ZA/\∃u,A v5 (Q g (m*6+j) U)=T u):=λj hj=>by have h:=ZI.L (j:=j) ld hj (gq (show j<(ddV r1).length from hj));exact⟨h.2,_,h.1⟩
    obtain⟨y0,u0,d0⟩:=F5.out 0 (by omega);obtain⟨y1,u1,d1⟩:=F5.out 1 (by omega);obtain⟨y2,u2,d2⟩:=F5.out 2 (by omega);obtain⟨y3,u3,d3⟩:=F5.out 3 (by omega);obtain⟨y4,u4,d4⟩:=F5.out 4 (by omega);obtain⟨y5,u5,d5⟩:=F5.out 5 (by omega);rw[PT] at y0 d0;have gl5:=ZI.gb.2.1;clear L ZI;go_wp2;go_meet;exact⟨_,_,_,_,by omega,ZJ⟩
   ·by_cases h1:(1:Int)<(D.length:Int)
    iterate 2
     ·go_wp2
      go_meet;exact⟨_,_,_,_,by omega,F⟩
  ·as_aux_lemma =>
    have hcap:=j5 F.row.i;obtain⟨KH,hj,aq,qr,Kw⟩:=L8 fk;have MF:IntKind.i64.wrap ((k:Int)+1)=(k:Int)+1:=by rw[p9];omega
    have Mm:(k:Int)+1<=(D.length:Int):=by omega
    have MC:((k:Int)+1).toNat=k+1:=by omega
    have hkc:(k:Int)<=(c1:Int):=by omega
    have ML:(0:Int)<=(k:Int)+1:=by omega
    obtain⟨A2,Ml,Md⟩:=Al (base:=w.heap.size+2) (g:=g) (c:=c1) hk (by omega);have MN:=ae Md;clear Md;go_wp2_with fail;refine aD (λV=>A V (Q X 0 U)=T (Z (T (Q g 0 U)) D.length c1)) 13 (by kernel_rfl) ?_;have l:=ae (F.aa br.drew);clear F;generalize ZQ.drew=E at l ⊢;have B:=ae l.G.1;iterate 4
     refine aI 1 (v:=?_) rfl rfl (by kernel_rfl) (λ_ _ _ h=>h) rfl ?_ B ?_;rotate_left
     ·(intro wz s0;go_simp)
      (try with_reducible rfl)
     (try simp only[Act.put,nzL])
    iterate 5
     refine aI 6 (v:=?_) rfl rfl (by kernel_rfl) (λ_ _ _ h=>h) rfl ?_ B ?_;rotate_left
     ·(intro wz s0;go_simp)
      (try with_reducible rfl)
     (try simp only[Act.put,nzL])
    clear Ml;refine ah (i:=0) rfl (by kernel_rfl) λK ZR=>?_;go_simp;have Li:=l.lt;have MI:=l.hX;have A4:=ae ((q9 E).alloc ly (N #[] 46));have O4:=ae (PS (base:=w.heap.size+2) (e:=46) (size:=6) E #[] 0 (by omega) (by unfold maxLen;omega) rfl);have C:=ae (l.aa A4);have DS:=ae C.G.1;refine ZR _ _ (λ_=>DS) ?_;clear ZR K
    (try simp only[Act.put,nzL])
    refine ah (i:=5) rfl (by kernel_rfl) (λK ZR=>?_);refine aG rfl (.tmp 247) (.tmp 251) 35 rfl (w.heap.size+2) 46 KH (.agg #[Y ⟨#[]⟩,J I 0,J I 0,Y ⟨#[]⟩,Z U 0 0,Z U 0 0]) 6 96 OT hj aq qr Kw rfl (by decide) (Z (T (Q E.heap.size 0 U)) 0 0) 0 [] (by simp[Act.eval]) O4.out (Q g 0 U) k c1 ((D.take k).flatMap ddV) (by simp[Act.eval]) (by rw[eW ddV 6 (λ_=>rfl),OD,QW (by omega)]) (CZ k C.row.i) (λu hu=>rJ D mv u (by obtain⟨ZN,h2,h3⟩:=PV.1 hu;exact PV.2 ⟨ZN,VZ h2,h3⟩)) (by unfold maxLen;omega) (by omega) (by simp;omega) ?_;intro v5 w5 ro At KX;simp only[FM,LN] at ro;have B5:=ae (bg A4 At (by simp) (λj e=>by simp[Value.ownBlock] at e;omega));have KO:∀j,v5.ownBlock=T j->E.heap.size<=j:=λj e=>by
     rcases KX with h|h;{rw[h] at e;simp[Value.ownBlock] at e;omega};{rw[h] at e;have:=BC e;simp at this;omega}
    have WB:=ae KO;have O5:=ae ro;have ZI:=ae (l.aa B5);have Lo:=ae ZI.G.1;clear ro At KX KO C O4 A4 DS B;refine ZR _ _ (λ_=>Lo) ?_;clear ZR K
    (try simp only[Act.put,nzL])
    obtain⟨a5,c5,rfl⟩:=aU O5;refine ah (i:=11) rfl (by kernel_rfl) λK ZR=>?_;refine aG rfl (.tmp 252) (.tmp 257) 35 rfl (w.heap.size+2) 46 KH (.agg #[Y ⟨#[]⟩,J I 0,J I 0,Y ⟨#[]⟩,Z U 0 0,Z U 0 0]) 6 96 OT hj aq qr Kw rfl (by decide) (Z a5 k c5) k ((D.take k).flatMap ddV) (by simp[Act.eval]) O5.out A2 (D.length - (k+1)) (c1 - (k+1)) ((D.drop (k+1)).flatMap ddV) (by simp[Act.eval]) (by rw[eW ddV 6 (λ_=>rfl),LD]) (MN _ ZI.row.i) (λu hu=>rJ D mv u (by obtain⟨ZN,h2,h3⟩:=PV.1 hu;exact PV.2 ⟨ZN,List.mem_of_mem_drop h2,h3⟩)) (by unfold maxLen;omega) (by omega) (by have:=B5.size;omega) ?_;intro v6 w6 bt th _;have B6:=ae (bg B5 th (B5.size) (λj e=>WB j e));rw[<-BO] at bt;obtain⟨a6,c6,rfl⟩:=aU bt;obtain⟨D2,KD⟩:∃D2,D2=D.take k++D.drop (k+1):=⟨_,rfl⟩
    have Fm:D2.length=k+(D.length - (k+1)):=by rw[KD,cM,OD,LD,QW (by omega)]
    rw[<-KD,<-Fm] at bt;rw[<-Fm];have ZJ:=ae (l.aa B6);have Id:∀ZN∈D2,ZN∈D:=λZN h2=>by rw[KD] at h2;exact(p8.1 h2).elim VZ List.mem_of_mem_drop
    have S7:=ae (l.box_ B6 bt (λZN h2=>ZJ.row.sub ZN (Id ZN h2)) (λZN h2=>ZJ.ad ZN (Id ZN h2)) (by omega));clear KD;have KF:=ae ZJ.G;clear bt th Id Fm ZI O5 WB Lo;refine ZR _ _ (λ_=>KF.1) ?_;clear ZR K
    (try simp only[Act.put,nzL])
    refine ah (i:=12) rfl (by kernel_rfl) λK ZR=>?_;go_simp;refine ZR _ _ (λ_=>KF.1) ?_;clear ZR K
    (try simp only[Act.put,nzL])
    have d0:=KF.1;have d1:=KF.2;have Mn:=ZJ.lt;refine ah (i:=13) rfl (by kernel_rfl) λK ZR=>?_;go_simp;refine ZR _ _ (λh=>absurd rfl h) ?_;clear ZR K
    (try simp only[Act.put,nzL])
    refine aX (by kernel_rfl) ?_ _;clear d0 d1 Mn l ZJ;go_wp2;go_meet;exact⟨_,_,_,_,by omega,S7⟩
  ·as_aux_lemma =>
    go_wp2_with fail;refine(au R _ 3 _ F.rd (by omega) (by omega) (by omega)).mono ?_;rintro e w4 ⟨z,rfl,z0,z1,H,G⟩;have l:=ae (F.F G H);clear G H F;obtain⟨m,hm⟩:∃m:Nat,60+z - 1=(m:Int):=⟨(60+z - 1).toNat,by omega⟩
    go_wp2_with fail;refine(MK m _ (by omega)).mono ?_;rintro e w5 ⟨a5,n5,c5,f5,rfl,Ln,KT,Lg,Lt⟩;have C:=ae (l.aa KT);have rs:=C.rs;have r0:A w5 (Q (w.heap.size+1) 0 U)=T (Z U 0 0):=by simp[World.cell?,rs]
    have f0:w5.frozen? (Q (w.heap.size+1) 0 U)=ZA:=by simp[World.frozen?,rs]
    have l0:=ag rs;have FN:=ae (l.other (ZM:=p+1100) KT Ln Lg Lt (by omega));clear rs KT Ln Lg Lt;go_wp2;try simp only[Exit.inBlock,Exit.then]
    exact bp (v:=.agg #[Z a5 n5 c5]) (by simp[results,results66,go_sem,r0]) rfl FN.out
  ·skip;have AB:=ae ((q9 ZQ).alloc ly (N #[Y ⟨#[117,110,117,115,101,100]⟩,J I 2,J I 0,Y ⟨#[]⟩,Z U 0 0,Z U 0 0] 46));have FB:=ae (nL ZQ (N #[Y ⟨#[117,110,117,115,101,100]⟩,J I 2,J I 0,Y ⟨#[]⟩,Z U 0 0,Z U 0 0] 46));have l:=ae (F.aa AB);have Lw:w.heap.size+2<=ZQ.heap.size:=by have:=F.lt;omega
   have L9:ZQ.heap.size≠X:=by have:=F.lt;omega
   have Lm:ZQ.heap.size≠g:=by have:=F.gb.2.1;omega
   go_wp2_with fail;generalize World.alloc ZQ _=v2 at l FB ⊢;generalize ZQ.heap.size=fb at FB Lw L9 Lm ⊢;clear AB F;go_loopg [10] D.length (λgh i wr=>∃(k2 q2:Nat) (nm tx:ByteArray) (kd:Int),k2+gh=D.length/\q2<=p+2+k2/\i=J I k2/\nm.size<=5000/\tx.size<=2000+K0/\Hid (SpS ZK w R X wr q2 (T (Q g 0 U)) c1 D)/\Hid (wr.heap[fb]?=T (N #[Y nm,J I kd,J I 0,Y tx,Z U 0 0,Z U 0 0] 46 (0,0))));case atStart=>exact⟨0,_,_,_,_,by omega,by omega,rfl,by decide,E4 _,l,FB⟩
   case round =>
    clear l FB;obtain⟨k2,q2,nm,tx,kd,hg2,hq2,rfl,Lv,Mh,l,FB⟩:=hrel;have hwk:IntKind.i64.wrap ((k2:Int)+1)=(k2:Int)+1:=by rw[p9];omega
    go_upto_region 9 with fail;go_cut [41] (λMz wx=>∃(b1:Bool) (q3:Nat),Mz=ZD b1/\(b1=ZG->k2<D.length)/\q3<=q2+1/\Hid (SpS ZK w R X wx q3 (T (Q g 0 U)) c1 D)/\Hid (wx.heap[fb]?=T (N #[Y nm,J I kd,J I 0,Y tx,Z U 0 0,Z U 0 0] 46 (0,0))));case first =>
     by_cases Le:(k2:Int)<(D.length:Int)
     {go_wp2_with fail;refine(au R _ 2 _ l.rd (by omega) (by omega) (by omega)).mono ?_;rintro e w4 ⟨z,rfl,z0,z1,H,G⟩;have C:=ae (l.F G H);have sm:=ae ((G.block fb (ag FB) (by omega)).trans FB);clear G H;go_wp2;go_meet;exact⟨_,_,rfl,λ_=>by omega,by omega,C,sm⟩};{go_wp2;go_meet;exact⟨_,_,rfl,λh=>by simp at h,by omega,l,FB⟩}
    case rest =>
    clear l FB;obtain⟨b1,q3,rfl,MJ,hq3,l,FB⟩:=hcut;cases b1 with
    |true =>
     have Le:k2<D.length:=MJ rfl;obtain⟨ZN,LP,Ls⟩:=cZ (R:=D) Le;have ld:=ae LP;have LU:=(DH ZN Ls)
     clear LP Ls;have bx:=l.G.1;have LV:=(l.L (j:=1) ld (by omega) rfl).1;by_cases h3:ZN.1.m=3
     ·rw[h3] at LV;have H3:=ae h3;clear h3;go_wp2;go_roundg (D.length - 1 - k2);case measure=>omega
      case rel=>exact⟨k2+1,q3,nm,tx,kd,by omega,by omega,by go_num,Lv,Mh,l,FB⟩
     ·have n3:(ZN.1.m == 3)=ZA:=by simpa using h3
      go_upto_region 12 with fail;clear bx LV;refine aD (λV=>A V (Q X 0 U)=T (Z (T (Q g 0 U)) D.length c1)/\A V (Q g (k2*6) U)=T (Y ZN.1.e)/\A V (Q g (k2*6+1) U)=T (J I ZN.1.m)/\A V (Q g (k2*6+3) U)=T (Y ZN.1.B)) 19 (by kernel_rfl) ?_;have C:=ae (l.aa br.drew);have sm:Hid (wc.drew.heap[fb]?=T (N #[Y nm,J I kd,J I 0,Y tx,Z U 0 0,Z U 0 0] 46 (0,0))):=FB.out;clear l FB;generalize wc.drew=E at C sm ⊢;have B:Hid (A E (Q X 0 U)=T (Z (T (Q g 0 U)) D.length c1)/\A E (Q g (k2*6) U)=T (Y ZN.1.e)/\A E (Q g (k2*6+1) U)=T (J I ZN.1.m)/\A E (Q g (k2*6+3) U)=T (Y ZN.1.B)):=⟨C.G.1,by have h:=(C.L (j:=0) ld (by omega) rfl).1;rwa[PT] at h,(C.L (j:=1) ld (by omega) rfl).1,(C.L (j:=3) ld (by omega) rfl).1⟩
      iterate 19
       refine aI 0 (v:=?_) rfl rfl (by kernel_rfl) (λ_ _ _ h=>h) rfl ?_ B ?_;rotate_left
       ·(rintro wz ⟨s0,s1,s2,s3⟩;go_simp)
        (try with_reducible rfl)
       (try simp only[Act.put,nzL])
      have L:=sm.out;have lf:=ag L;have q0:A E (Q fb 0 U)=T (Y nm):=by simp[World.cell?,L]
      have q1:A E (Q fb 1 U)=T (J I kd):=by simp[World.cell?,L]
      have Mt:A E (Q fb 2 U)=T (J I 0):=by simp[World.cell?,L]
      have Mr:A E (Q fb 3 U)=T (Y tx):=by simp[World.cell?,L]
      have q4:A E (Q fb 4 U)=T (Z U 0 0):=by simp[World.cell?,L]
      have q5:A E (Q fb 5 U)=T (Z U 0 0):=by simp[World.cell?,L]
      have z0:∀j,E.frozen? (Q fb j U)=ZA:=λj=>by simp[World.frozen?,L]
      have ZI:=ae (C.aside Lw L9 Lm L (Y ZN.1.e) (J I ZN.1.m) (J I 0) (Y ZN.1.B) (Z U 0 0) (Z U 0 0));have Mw:=ae (LBx.six (W:=E) (b:=fb) L (Y ZN.1.e) (J I ZN.1.m) (J I 0) (Y ZN.1.B) (Z U 0 0) (Z U 0 0));clear L;refine ah (i:=19) rfl (by kernel_rfl) λK ZR=>?_;go_simp;refine ZR _ _ (λh=>absurd rfl h) ?_;clear ZR K B
      (try simp only[Act.put,nzL])
      refine aX (by kernel_rfl) ?_ _;clear q0 q1 Mt Mr q4 q5 z0 C sm;go_wp2;go_roundg (D.length - 1 - k2);case measure=>omega
      case rel=>exact⟨k2+1,q3,ZN.1.e,ZN.1.B,ZN.1.m,by omega,by omega,by go_num,LU.nm,LU.tx,ZI,Mw⟩
    |false =>
     have L:=FB.out;have lf:=ag L;have e0:A wc (Q fb 0 U)=T (Y nm):=by simp[World.cell?,L]
     have e1:A wc (Q fb 1 U)=T (J I kd):=by simp[World.cell?,L]
     have e2:A wc (Q fb 2 U)=T (J I 0):=by simp[World.cell?,L]
     have e3:A wc (Q fb 3 U)=T (Y tx):=by simp[World.cell?,L]
     have e4:A wc (Q fb 4 U)=T (Z U 0 0):=by simp[World.cell?,L]
     have e5:A wc (Q fb 5 U)=T (Z U 0 0):=by simp[World.cell?,L]
     clear L;have bx:=l.G.1;have lx:=l.lt;have MI:=l.hX;obtain⟨KH,hj,aq,qr,Kw⟩:=L8 fk;have A4:=ae ((q9 wc).alloc ly (N #[Y nm,J I kd,J I 0,Y tx,Z U 0 0,Z U 0 0] 46));have O4:Hid ((wc.alloc (N #[Y nm,J I kd,J I 0,Y tx,Z U 0 0,Z U 0 0] 46)).ownsRow (w.heap.size+2) 46 6 (Z (T (Q wc.heap.size 0 U)) 1 1) 1 [Y nm,J I kd,J I 0,Y tx,Z U 0 0,Z U 0 0]):=mF (cs:=#[Y nm,J I kd,J I 0,Y tx,Z U 0 0,Z U 0 0]) (by omega) (by unfold maxLen;omega) rfl;have C:=ae (l.aa A4);have Mi:=C.G.1;have MQ:=C.G.2;go_wp2_with (at_builtin;refine BS _ rfl (.tmp 71) (.tmp 73) 35 rfl (w.heap.size+2) 46 KH (.agg #[Y ⟨#[]⟩,J I 0,J I 0,Y ⟨#[]⟩,Z U 0 0,Z U 0 0]) 6 96 OT hj aq qr Kw rfl (by decide) (Z (T (Q wc.heap.size 0 U)) 1 1) 1 [Y nm,J I kd,J I 0,Y tx,Z U 0 0,Z U 0 0] (by simp[Act.eval]) O4.out (Q g 0 U) D.length c1 (D.flatMap ddV) (by simp[Act.eval]) (eW ddV 6 (λ_=>rfl) D) (λj u hu=>C.row.i.cells (g:=g) rfl j u hu) (rJ D mv) (by unfold maxLen;omega) (by omega) (by simp;omega) ?_;intro v5 w5 Hx KB Me;obtain⟨g5,c5,rfl⟩:=cC Hx (by omega);have B5:=ae (bg A4 KB (by simp) (λj e=>by simp[Value.ownBlock] at e;omega));have O5:=ae Hx;have ZI:=ae (l.aa B5);obtain⟨Mj,MA⟩:=ZI.G;have MD:=ZI.lt;clear Hx KB Me);obtain⟨D3,n9⟩:∃D3,D3=jD nm tx kd::D:=⟨_,rfl⟩
     have KP:D3.length=1+D.length:=by rw[n9,eL];omega
     have Ky:w5.ownsRow (w.heap.size+2) 46 6 (Z (T (Q g5 0 U)) D3.length c5) D3.length (D3.flatMap ddV):=by rw[KP,n9,J2];exact O5
     have ZJ:=ae (l.box_ B5 Ky (λr6 h6=>by
      rw[n9] at h6;rcases AT.1 h6 with rfl|h6;{exact vK _ _ _ _ _}
      ·exact ZI.row.sub r6 h6) (λr6 h6=>by
      rw[n9] at h6;rcases AT.1 h6 with rfl|h6;{exact pz kd Lv (by omega)}
      ·exact ZI.ad r6 h6) (by omega))
     have UP:Hid ((D3.map (·.2.2)).Pairwise Apt):=by rw[n9];exact JB Lz nm tx kd
     have hn3:D3.length<=450+ZK:=by omega
     rw[<-KP];generalize World.setCell w5 _ _=v6 at ZJ ⊢;clear Ky n9 KP O5 B5 ZI C A4 O4 l FB Mj MA MD Mi MQ bx lx e0 e1 e2 e3 e4 e5;go_loopg [11,12] D3.length (λgh i _ wr=>∃(k3:Nat) (D4:List DR),k3+gh=D3.length/\i=J I k3/\Hid (D4.length=D3.length)/\Hid (D4.map (·.2)=D3.map (·.2))/\Hid (SpS ZK w R X wr q3 (T (Q g5 0 U)) c5 D4));case atStart=>exact⟨0,D3,by omega,rfl,rfl,rfl,ZJ⟩
     case round =>
      clear ZJ;obtain⟨k3,D4,hg3,rfl,Fd,LH,S7⟩:=hrel;have MP:D4.length<=450+ZK:=by have:=Fd.out;omega
      have hwk3:IntKind.i64.wrap ((k3:Int)+1)=(k3:Int)+1:=by rw[p9];have:=Fd.out;omega
      have MM:=S7.G.1;by_cases Le:(k3:Int)<(D4.length:Int)
      ·obtain⟨r4,Ma,Ll⟩:=cZ (R:=D4) (i:=k3) (by omega);have Ms:=ae Ma;have hln4:=(S7.ad r4 Ll).ln;clear Ma Ll;go_wp2_with fail;clear MM;go_loopg [12] r4.1.b (λgh j wr=>∃(j3:Nat) (D5:List DR) (P:DR),j3+gh=r4.1.b/\j=J I j3/\Hid (D5.length=D4.length)/\Hid (D5.map (·.2)=D4.map (·.2))/\Hid (D5[k3]?=T P)/\Hid (P.1.b=r4.1.b)/\Hid (SpS ZK w R X wr q3 (T (Q g5 0 U)) c5 D5));case atStart=>exact⟨0,D4,r4,by omega,rfl,rfl,rfl,Ms,rfl,S7⟩
       case round =>
        clear S7;obtain⟨j3,D5,P,hg5,rfl,JT,Kv,ph,dg,S8⟩:=hrel;have Mo:k3<D5.length:=by have:=JT.out;omega
        have Lp:=LB ph.out;have Lc:=ae Lp;clear Lp;have hln5:P.1.b<=200+ZK:=by have:=dg.out;omega
        have hwj3:IntKind.i64.wrap ((j3:Int)+1)=(j3:Int)+1:=by rw[p9];have:=dg.out;omega
        obtain⟨al,cl,el⟩:=cJ (S8.row.sub P Lc).V;have EL:=ae el;have Mp:=S8.G.1;have ME:_=T (Value.slice al P.1.b cl):=(S8.L (j:=5) ph (by omega) (by rw[<-el];rfl)).1;clear el;by_cases hjl:(j3:Int)<(P.1.b:Int)
        ·have KE:j3<P.1.b:=by omega
         obtain⟨ZO,MH,e2⟩:=cC (S8.row.sub P Lc).V (by omega);rw[EL.out] at e2;obtain⟨rfl,-,-⟩:=TM e2;clear e2 MH;have OL:Hid (∀V q,SpS ZK w R X V q (T (Q g5 0 U)) c5 D5->V.ownsRow (w.heap.size+2) 91 4 (Z (T (Q ZO 0 U)) P.1.b cl) P.1.b (bq P.1.D P.1.b)):=λV q hV=>by rw[<-EL.out];exact(hV.row.sub P Lc).V
         have ak:=(cX (j:=1) (OL _ _ S8) KE (by omega) rfl).1;cases hask:(P.1.D j3).ask with
         |false =>
          rw[hask] at ak;clear hask;go_wp2;go_roundg (r4.1.b - 1 - j3);case measure=>have:=dg.out;omega
          case rel=>exact⟨j3+1,D5,P,by have:=dg.out;omega,by go_num,JT,Kv,ph,dg,S8⟩
         |true =>
          rw[hask] at ak;clear hask;go_upto_region 21 with fail;clear Mp ME ak;refine aD (λV=>A V (Q X 0 U)=T (Z (T (Q g5 0 U)) D5.length c5)/\A V (Q g5 (k3*6+5) U)=T (Z (T (Q ZO 0 U)) P.1.b cl)/\A V (Q ZO (j3*4+3) U)=T (J I (P.1.D j3).L)) 20 (by kernel_rfl) ?_;have S9:=ae (S8.aa br.drew);clear S8;generalize wr.drew=v8 at S9 ⊢;have B:Hid (A v8 (Q X 0 U)=T (Z (T (Q g5 0 U)) D5.length c5)/\A v8 (Q g5 (k3*6+5) U)=T (Z (T (Q ZO 0 U)) P.1.b cl)/\A v8 (Q ZO (j3*4+3) U)=T (J I (P.1.D j3).L)):=⟨S9.G.1,(S9.L (j:=5) ph (by omega) (by rw[<-EL.out];rfl)).1,(cX (j:=3) (OL _ _ S9) KE (by omega) rfl).1⟩
          iterate 18
           refine aI 0 (v:=?_) rfl rfl (by kernel_rfl) (λ_ _ _ h=>h) rfl ?_ B ?_;rotate_left
           ·(rintro wz ⟨s0,s1,s2⟩;go_simp)
            (try with_reducible rfl)
           (try simp only[Act.put,nzL])
          generalize IntKind.i64.wrap ((P.1.D j3).L+1)=zz;iterate 2
           refine cD 18 rfl rfl (by kernel_rfl) λK ZR=>?_;go_simp;refine ZR _ _ (λ_=>B) ?_;clear ZR K
           (try simp only[Act.put,nzL])
          have d0:=B.2.2;have d1:=(cX (j:=3) (OL _ _ S9) KE (by omega) rfl).2;have MR:=((OL _ _ S9).lt ZO rfl).2;have Lu:(D5.map (·.2.2)).Pairwise Apt:=by
           have e3:D5.map (·.2.2)=D3.map (·.2.2):=by have e4:=wA (List.map Prod.snd) (Kv.trans LH);rw[List.map_map,List.map_map] at e4;exact e4
           rw[e3];exact UP
          have Mk:=ae (S9.V Lu ph EL KE zz);clear Lu;refine ah (i:=20) rfl (by kernel_rfl) λK ZR=>?_;go_simp;refine ZR _ _ (λh=>absurd rfl h) ?_;clear ZR K B
          (try simp only[Act.put,nzL])
          refine aX (by kernel_rfl) ?_ _;clear d0 d1 MR S9;go_wp2;go_roundg (r4.1.b - 1 - j3);case measure=>have:=dg.out;omega
          case rel=>exact⟨j3+1,D5.set k3 (atD P.1 j3 zz,P.2),(atD P.1 j3 zz,P.2),by have:=dg.out;omega,by go_num,KK.trans JT,(FK ph _).trans Kv,PU Mo,dg,Mk⟩
        ·go_wp2;go_roundg (D3.length - 1 - k3);case measure=>have:=Fd.out;omega
         case rel=>exact⟨k3+1,D5,by have:=Fd.out;omega,by go_num,JT.trans Fd,Kv.trans LH,S8⟩
      {go_wp2;go_meet;exact⟨_,_,_,_,by omega,S7⟩}
  all_goals
   as_aux_lemma =>
    first
     |have e:s=0:=h
      subst e;obtain⟨r0,Lx,Kt⟩:=cZ (R:=D) (i:=0) (by omega);have H0:=ae Lx;have MG:r0.1.e.size<=5000:=(DH r0 Kt).nm;clear Lx Kt;go_wp2_with fail;refine aD (λV=>A V (Q X 0 U)=T (Z (T (Q g 0 U)) D.length c1)/\A V (Q g 0 U)=T (Y r0.1.e)) 16 (by kernel_rfl) ?_;have l:=ae (F.aa br.drew);clear F;generalize ZQ.drew=E at l ⊢;have hD0:0<D.length:=by omega
      have B:Hid (A E (Q X 0 U)=T (Z (T (Q g 0 U)) D.length c1)/\A E (Q g 0 U)=T (Y r0.1.e)):=⟨l.G.1,by have h:=(l.L (k:=0) (j:=0) H0 (by omega) rfl).1;simpa using h⟩
      iterate 8
       refine aI 0 (v:=?_) rfl rfl (by kernel_rfl) (λ_ _ _ h=>h) rfl ?_ B ?_;rotate_left
       ·(rintro wz ⟨s0,s1⟩;go_simp)
        (try with_reducible rfl)
       (try simp only[Act.put,nzL])
      refine aI 10 (v:=?_) rfl rfl (by kernel_rfl) (λ_ _ _ h=>h) rfl ?_ B ?_;rotate_left
      ·(rintro wz ⟨s0,s1⟩;go_simp)
       (try with_reducible rfl)
      (try simp only[Act.put,nzL])
      refine ah (i:=8) rfl (by kernel_rfl) λK ZR=>?_;go_simp;go_at_call 74;obtain⟨m1,KC⟩:∃m1:Nat,(61:Int)=(m1:Int):=⟨61,rfl⟩
      rw[KC];refine(eP ⟨#[110]⟩ m1 _ (by show 1*m1<=4000;omega) (by omega)).mono ?_;rintro e v6 ⟨t,rfl,ht,hw⟩;rw[hw];have Lf:t.size<=5000:=p7 ht (by show 1*m1<=5000;omega);clear ht hw;refine ZR _ _ (λ_=>B) ?_;clear ZR K
      (try simp only[Act.put,nzL])
      refine uQ (i:=9) (j:=11) rfl rfl (by kernel_rfl) (λK ZR=>?_) λK ZR=>?_
      focus
       go_simp;have A4:=(q9 E).alloc ly (N #[Y ⟨#[]⟩,Y ⟨#[120,32,121]⟩,Y r0.1.e,Y t] 9);have HL:Hid ((E.alloc (N #[Y ⟨#[]⟩,Y ⟨#[120,32,121]⟩,Y r0.1.e,Y t] 9)).heap[E.heap.size]?=T (N #[Y ⟨#[]⟩,Y ⟨#[120,32,121]⟩,Y r0.1.e,Y t] 9 (0,0))):=nL E _;have C:=ae (l.aa A4);have Lb:=l.lt;have Lh:=l.hX;have Kx:E.heap.size≠R:=by omega
       clear A4 B Lb Lh;generalize World.alloc E _=O at C HL ⊢;generalize E.heap.size=Mb at HL Kx ⊢;have B:Hid (A O (Q X 0 U)=T (Z (T (Q g 0 U)) D.length c1)/\A O (Q g 0 U)=T (Y r0.1.e)):=⟨C.G.1,by have h:=(C.L (k:=0) (j:=0) H0 (by omega) rfl).1;simpa using h⟩
       refine ZR _ _ (λ_=>B) ?_;clear ZR K
       (try simp only[Act.put,nzL])
       refine ah (i:=11) rfl (by kernel_rfl) λK ZR=>?_;go_simp;go_at_call 40;refine(au R _ 4 _ C.rd (by omega) (by omega) (by omega)).mono ?_;rintro e v5 ⟨z4,rfl,Fn,Mf,H,G⟩;obtain⟨m,rfl⟩:=AS Fn;have hm:m<4:=by omega
       have ZJ:=ae (C.F G H);have HL:=ae ((G.block Mb (ag HL) Kx).trans HL);clear G H C B;have B:Hid (A v5 (Q X 0 U)=T (Z (T (Q g 0 U)) D.length c1)/\A v5 (Q g 0 U)=T (Y r0.1.e)):=⟨ZJ.G.1,by have h:=(ZJ.L (k:=0) (j:=0) H0 (by omega) rfl).1;simpa using h⟩
       refine ZR _ _ (λ_=>B) ?_;clear ZR K
       (try simp only[Act.put,nzL])
      rotate_left
      focus
       go_simp;go_at_call 40;refine(au R _ 4 _ l.rd (by omega) (by omega) (by omega)).mono ?_;rintro e O ⟨z4,rfl,Fn,Mf,H,G⟩;obtain⟨m,rfl⟩:=AS Fn;have hm:m<4:=by omega
       have C:=ae (l.F G H);clear G H l B;have B:Hid (A O (Q X 0 U)=T (Z (T (Q g 0 U)) D.length c1)/\A O (Q g 0 U)=T (Y r0.1.e)):=⟨C.G.1,by have h:=(C.L (k:=0) (j:=0) H0 (by omega) rfl).1;simpa using h⟩
       refine ZR _ _ (λ_=>B) ?_;clear ZR K
       (try simp only[Act.put,nzL])
       refine ah (i:=9) rfl (by kernel_rfl) λK ZR=>?_;go_simp;have A4:=(q9 O).alloc ly (N #[Y ⟨#[]⟩,Y ⟨#[120,32,121]⟩,Y r0.1.e,Y t] 9);have HL:Hid ((O.alloc (N #[Y ⟨#[]⟩,Y ⟨#[120,32,121]⟩,Y r0.1.e,Y t] 9)).heap[O.heap.size]?=T (N #[Y ⟨#[]⟩,Y ⟨#[120,32,121]⟩,Y r0.1.e,Y t] 9 (0,0))):=nL O _;have ZJ:=ae (C.aa A4);have Lb:=C.lt;have Lh:=C.hX;have Kx:O.heap.size≠R:=by omega
       clear A4 B Lb Lh;generalize World.alloc O _=v5 at ZJ HL ⊢;generalize O.heap.size=Mb at HL Kx ⊢;have B:Hid (A v5 (Q X 0 U)=T (Z (T (Q g 0 U)) D.length c1)/\A v5 (Q g 0 U)=T (Y r0.1.e)):=⟨ZJ.G.1,by have h:=(ZJ.L (k:=0) (j:=0) H0 (by omega) rfl).1;simpa using h⟩
       refine ZR _ _ (λ_=>B) ?_;clear ZR K
       (try simp only[Act.put,nzL])
      all_goals
       obtain⟨zz,MS,hzz⟩:=pB HL (by decide) (by decide) MG Lf m hm
       iterate 4
        refine cD 12 rfl rfl (by kernel_rfl) λK ZR=>?_;go_simp;refine ZR _ _ (λ_=>B) ?_;clear ZR K
        (try simp only[Act.put,nzL])
       obtain⟨d0,d1⟩:=ZJ.L (j:=0) ZP (by omega) rfl;rw[PT] at d0 d1;have ZO:=ZJ.gb.2.1;have S9:=ae (ZJ.fld (j:=0) (u:=Y zz) (r':=({ r.1 with e:=zz },r.2)) ZP (by omega) rfl ((ZJ.row.sub r HM).same _ rfl rfl rfl rfl) (ZL.e MS))
     |have e:s=1:=h
      subst e;go_wp2_with fail;refine aD (λV=>A V (Q X 0 U)=T (Z (T (Q g 0 U)) D.length c1)) 7 (by kernel_rfl) ?_;have l:=ae (F.aa br.drew);clear F;generalize ZQ.drew=E at l ⊢;have B:=ae l.G.1
      iterate 4
       refine aI 0 (v:=?_) rfl rfl (by kernel_rfl) (λ_ _ _ h=>h) rfl ?_ B ?_;rotate_left
       ·(intro wz s0;go_simp)
        (try with_reducible rfl)
       (try simp only[Act.put,nzL])
      refine ah (i:=4) rfl (by kernel_rfl) λK ZR=>?_;go_simp;go_at_call 40;refine(au R _ 5 _ l.rd (by omega) (by omega) (by omega)).mono ?_;rintro e O ⟨z4,rfl,Lq,LZ,H,G⟩;have C:=ae (l.F G H);clear G H l B;have B:=ae C.G.1;refine ZR _ _ (λ_=>B) ?_;clear ZR K
      (try simp only[Act.put,nzL])
      iterate 2
       refine cD 5 rfl rfl (by kernel_rfl) λK ZR=>?_;go_simp;refine ZR _ _ (λ_=>B) ?_;clear ZR K
       (try simp only[Act.put,nzL])
      obtain⟨d0,d1⟩:=C.L (j:=1) ZP (by omega) rfl;have ZO:=C.gb.2.1;have S9:=ae (C.fld (j:=1) (u:=J I z4) (r':=({ r.1 with m:=z4 },r.2)) ZP (by omega) rfl ((C.row.sub r HM).same _ rfl rfl rfl rfl) (ZL.m z4))
     |have e:s=2:=h
      subst e;go_wp2_with fail;refine aD (λV=>A V (Q X 0 U)=T (Z (T (Q g 0 U)) D.length c1)) 8 (by kernel_rfl) ?_;have l:=ae (F.aa br.drew);clear F;generalize ZQ.drew=E at l ⊢;have B:=ae l.G.1
      iterate 4
       refine aI 0 (v:=?_) rfl rfl (by kernel_rfl) (λ_ _ _ h=>h) rfl ?_ B ?_;rotate_left
       ·(intro wz s0;go_simp)
        (try with_reducible rfl)
       (try simp only[Act.put,nzL])
      refine ah (i:=4) rfl (by kernel_rfl) λK ZR=>?_;go_simp;go_at_call 40;refine(au R _ 8 _ l.rd (by omega) (by omega) (by omega)).mono ?_;rintro e O ⟨z4,rfl,Lq,LZ,H,G⟩;have C:=ae (l.F G H);clear G H l B;have B:=ae C.G.1;refine ZR _ _ (λ_=>B) ?_;clear ZR K
      (try simp only[Act.put,nzL])
      have Lr:IntKind.i64.wrap (z4 - 1)=z4 - 1:=by rw[p9];omega
      iterate 3
       refine cD 5 rfl rfl (by kernel_rfl) λK ZR=>?_;go_simp;refine ZR _ _ (λ_=>B) ?_;clear ZR K
       (try simp only[Act.put,nzL])
      obtain⟨d0,d1⟩:=C.L (j:=2) ZP (by omega) rfl;have ZO:=C.gb.2.1;have S9:=ae (C.fld (j:=2) (u:=J I (z4 - 1)) (r':=({ r.1 with E:=z4 - 1 },r.2)) ZP (by omega) rfl ((C.row.sub r HM).same _ rfl rfl rfl rfl) (ZL.E _))
     |have e:s=3:=h
      subst e;go_wp2_with fail;refine aD (λV=>A V (Q X 0 U)=T (Z (T (Q g 0 U)) D.length c1)/\A V (Q g (k*6+3) U)=T (Y r.1.B)) 12 (by kernel_rfl) ?_;have l:=ae (F.aa br.drew);clear F;generalize ZQ.drew=E at l ⊢;have B:Hid (A E (Q X 0 U)=T (Z (T (Q g 0 U)) D.length c1)/\A E (Q g (k*6+3) U)=T (Y r.1.B)):=⟨l.G.1,(l.L (j:=3) ZP (by omega) rfl).1⟩
      have hsz:¬ 9223372036854775807<r.1.B.size+1:=by omega
      have Mg:(r.1.B++⟨#[120]⟩).size<=2000+ZK:=by have e1:(⟨#[120]⟩:ByteArray).size=1:=rfl;rw[IH,e1];omega
      iterate 9
       refine aI 0 (v:=?_) rfl rfl (by kernel_rfl) (λ_ _ _ h=>h) rfl ?_ B ?_;rotate_left
       ·(rintro wz ⟨s0,s1⟩;go_simp)
        (try with_reducible rfl)
       (try simp only[Act.put,nzL])
      iterate 3
       refine cD 9 rfl rfl (by kernel_rfl) λK ZR=>?_;go_simp;refine ZR _ _ (λ_=>B) ?_;clear ZR K
       (try simp only[Act.put,nzL])
      obtain⟨d0,d1⟩:=l.L (j:=3) ZP (by omega) rfl;have ZO:=l.gb.2.1;have S9:=ae (l.fld (j:=3) (u:=Y (r.1.B++⟨#[120]⟩)) (r':=({ r.1 with B:=r.1.B++⟨#[120]⟩ },r.2)) ZP (by omega) rfl ((l.row.sub r HM).same _ rfl rfl rfl rfl) (ZL.B Mg))
     |have e:s=4:=h
      subst e;go_wp2_with fail;refine aD (λV=>A V (Q X 0 U)=T (Z (T (Q g 0 U)) D.length c1)) 9 (by kernel_rfl) ?_;have l:=ae (F.aa br.drew);clear F;generalize ZQ.drew=E at l ⊢;have B:=ae l.G.1
      iterate 4
       refine aI 0 (v:=?_) rfl rfl (by kernel_rfl) (λ_ _ _ h=>h) rfl ?_ B ?_;rotate_left
       ·(intro wz s0;go_simp)
        (try with_reducible rfl)
       (try simp only[Act.put,nzL])
      refine ah (i:=4) rfl (by kernel_rfl) λK ZR=>?_;go_simp;go_at_call 40;refine(au R _ 2 _ l.rd (by omega) (by omega) (by omega)).mono ?_;rintro e O ⟨z4,rfl,Lq,LZ,H,G⟩;have C:=ae (l.F G H);clear G H l B;have B:=ae C.G.1;refine ZR _ _ (λ_=>B) ?_;clear ZR K
      (try simp only[Act.put,nzL])
      have Lr:IntKind.i64.wrap (2000+z4)=2000+z4:=by rw[p9];omega
      refine ah (i:=5) rfl (by kernel_rfl) λK ZR=>?_;go_simp;refine ZR _ _ (λ_=>B) ?_;clear ZR K
      (try simp only[Act.put,nzL])
      obtain⟨m0,Kt⟩:∃m0:Nat,2000+z4=(m0:Int):=⟨(2000+z4).toNat,by omega⟩
      rw[Kt];refine ah (i:=6) rfl (by kernel_rfl) λK ZR=>?_;go_simp;go_at_call 74;refine(eP ⟨#[116]⟩ m0 _ (by show 1*m0<=4000;omega) (by omega)).mono ?_;rintro e v6 ⟨t,rfl,ht,hw⟩;rw[hw];have Lf:t.size<=2000+ZK:=p7 ht (by show 1*m0<=2000+ZK;omega);clear ht hw Lr;refine ZR _ _ (λ_=>B) ?_;clear ZR K
      (try simp only[Act.put,nzL])
      iterate 2
       refine cD 7 rfl rfl (by kernel_rfl) λK ZR=>?_;go_simp;refine ZR _ _ (λ_=>B) ?_;clear ZR K
       (try simp only[Act.put,nzL])
      obtain⟨d0,d1⟩:=C.L (j:=3) ZP (by omega) rfl;have ZO:=C.gb.2.1;have S9:=ae (C.fld (j:=3) (u:=Y t) (r':=({ r.1 with B:=t },r.2)) ZP (by omega) rfl ((C.row.sub r HM).same _ rfl rfl rfl rfl) (ZL.B Lf))
     |have e:s=5:=h
      subst e;obtain⟨⟨ga,ca,ea⟩,-⟩:=mv.out r HM;have EA:=ae ea;clear ea;go_wp2_with fail;refine aD (λV=>A V (Q X 0 U)=T (Z (T (Q g 0 U)) D.length c1)/\A V (Q g (k*6+4) U)=T (Z (T (Q ga 0 U)) r.1.f ca)) 13 (by kernel_rfl) ?_;have l:=ae (F.aa br.drew);clear F;generalize ZQ.drew=E at l ⊢;have B:Hid (A E (Q X 0 U)=T (Z (T (Q g 0 U)) D.length c1)/\A E (Q g (k*6+4) U)=T (Z (T (Q ga 0 U)) r.1.f ca)):=⟨l.G.1,(l.L (j:=4) ZP (by omega) (by rw[<-EA.out];rfl)).1⟩
      iterate 10
       refine aI 0 (v:=?_) rfl rfl (by kernel_rfl) (λ_ _ _ h=>h) rfl ?_ B ?_;rotate_left
       ·(rintro wz ⟨s0,s1⟩;go_simp)
        (try with_reducible rfl)
       (try simp only[Act.put,nzL])
      refine ah (i:=10) rfl (by kernel_rfl) λK ZR=>?_;go_simp;go_at_call 96;refine(Dm (l.row.sub r HM) EA l.rd (by omega) Kz (by omega)).mono ?_;rintro e O ⟨L4,g4,c4,rfl,Ly,-,MP,LX,q4,hq4,H,G⟩;have C:=ae (l.F G H);have Li:=l.lt;have I4:Hid (O.ownsRow (w.heap.size+2) 151 3 (Z (T (Q g4 0 U)) L4.length c4) L4.length (bJ (dn L4) L4.length)):=by show World.ownsRow _ _ _ _ _ _ _;rw[<-vu];exact aB Ly (by omega)
      have T4:=ae LX;clear G H l B Ly LX Li;have B:Hid (A O (Q X 0 U)=T (Z (T (Q g 0 U)) D.length c1)/\A O (Q g (k*6+4) U)=T (Z (T (Q ga 0 U)) r.1.f ca)):=⟨C.G.1,(C.L (j:=4) ZP (by omega) (by rw[<-EA.out];rfl)).1⟩
      refine ZR _ _ (λ_=>B) ?_;clear ZR K
      (try simp only[Act.put,nzL])
      iterate 2
       refine cD 11 rfl rfl (by kernel_rfl) λK ZR=>?_;go_simp;refine ZR _ _ (λ_=>B) ?_;clear ZR K
       (try simp only[Act.put,nzL])
      have d0:=B.2;have d1:=(C.L (j:=4) ZP (by omega) rfl).2;have ZO:=C.gb.2.1;have S9:=ae (C.fld (j:=4) (u:=Z (T (Q g4 0 U)) L4.length c4) (r':=({ r.1 with f:=L4.length,H:=dn L4 },Z (T (Q g4 0 U)) L4.length c4,r.2.2)) ZP (by omega) rfl ⟨I4,(C.row.sub r HM).V⟩ ⟨ZL.nm,ZL.tx,by show L4.length<=200+ZK;omega,mB T4,ZL.ln,ZL.lsz⟩)
    all_goals
     refine cD 0 rfl rfl (by kernel_rfl) λK ZR=>?_;go_simp;refine ZR _ _ (λh=>absurd rfl h) ?_;clear ZR K B
     (try simp only[Act.put,nzL])
     refine aX (by kernel_rfl) ?_ _;clear d0 d1 ZO;go_wp2;go_meet;exact⟨_,_,_,_,by omega,S9⟩
 case rest =>
 clear F;obtain⟨a',c',q',D',Mv,S9⟩:=hcut;have bx:=S9.G.1;have rs:=S9.rs;have r0:A wc (Q (w.heap.size+1) 0 U)=T (Z U 0 0):=by simp[World.cell?,rs]
 have f0:wc.frozen? (Q (w.heap.size+1) 0 U)=ZA:=by simp[World.frozen?,rs]
 have l0:=ag rs;have FN:=ae (S9.fin (by omega) Mv);clear rs;go_wp2;exact bp (v:=.agg #[Z a' D'.length c']) (by simp[results,results66,go_sem,r0]) rfl FN.out
