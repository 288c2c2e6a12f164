import Derived.Test.YtpmnbjkjpnclaaaGreatDoorPG
import Derived.Test.YtpmnbjkjpnclaaaGreatDoorQW
set_option maxRecDepth 100000
set_option maxHeartbeats 40000000
open Go renaming Addr.mk->Q,Value.slice->Z,Value.string->U,Value.int->N,Value.bool->ZD,Value.agg->ZH,Obj.cells->J,IntKind.i64->I,World->M,TypeId->ZI,World.cell?->A
open Option renaming none->Y,some->T
open Bool renaming false->ZA,true->ZG
namespace Go.Proofs.YtpmnbjkjpnclaaaGreatDoor.Vp
open Tryz RowKit Ca
variable {w W:M}{n b m c g R:Nat}{t:ZI}
theorem IL:∃i:TypeInfo,Tryz.prog.info? 91=T i/\i.zero=T (ZH #[U ⟨#[]⟩,ZD ZA,ZD ZA,N I 0])/\i.size=4/\i.bytes=32:=OB iC
theorem mI{base size:Nat}{e:ZI}{cs:Array Value}(hb:base<=w.heap.size)(c:n<=maxLen)(b:cs.size=n*size):(w.alloc (J cs e)).ownsRow base e size (Z (T (Q w.heap.size 0 Y)) n n) n cs.toList :=
 ⟨by simpa using b,.inr ⟨w.heap.size,n,cs,rfl,hb,nL w _,n6 _,c,b,by rw[IU];simp[b]⟩⟩
theorem Dr (f:Nat->Link)(h:m<=n):(bq f n).take (m*4)=bq f m:=by
 refine T3 λj=>?_;rw[XC];have hn:=jc f n;have hm:=jc f m;by_cases b:j<m*4
 ·have e:j=j / 4*4+j % 4:=by omega
  rw[p6 b,e,jS f (by omega) _ (T8 _ (by omega)),jS f (by omega) _ (T8 _ (by omega))]
 {rw[gM b,OT (by omega)]}
theorem F9{f:Nat->Link}(h:w.ownsRow b 91 4 (Z (T (Q g 0 Y)) n c) n (bq f n))(l:m<=n):w.ownsRow b 91 4 (Z (T (Q g 0 Y)) m c) m (bq f m):=by
 refine⟨jc f m,?_⟩;rcases h.2 with ⟨i,_⟩|⟨g',cap,j,i,hb,r,hc,q,p,o⟩
 {cases i}
 ·cases i
  refine .inr ⟨g,c,j,rfl,hb,r,by omega,q,p,?_⟩;rw[<-Dr f l,<-o,List.take_take,Q3 (by omega)]
theorem vR (f:Nat->Link)(n:Nat)(y:Link):bq f n++cQ y=bq (λi=>if i=n then y else f i) (n+1):=by
 unfold bq;rw[PD,DN,BO];congr 1;{congr 1;refine WM λi hi=>?_;have:=PL.1 hi;rw[gM (by omega)]};{simp}
theorem Ga{i g f c:Int}{fz:Nat × Nat}(h:w.heap[b]?=T (J #[N I i,N I g,N I f,N I c] t fz))(k:Nat)(l:k<4):∃z,A w (Q b k Y)=T (N I z):=by
 match k,l with
 |0,_=>exact⟨i,by simp[World.cell?,h]⟩
 |1,_=>exact⟨g,by simp[World.cell?,h]⟩
 |2,_=>exact⟨f,by simp[World.cell?,h]⟩
 |3,_=>exact⟨c,by simp[World.cell?,h]⟩
 |j+4,h5=>exact absurd h5 (by omega)
def nI (W:M)(b:Nat):Nat:=match A W (Q b 5 Y) with
 |some (Z _ n _)=>n
 |_=>0
theorem LBx.len{g l i f j:Value}{a:Option Addr}(h:LBx W b g l i f j (Z a n c)):nI W b=n:=by unfold nI;rw[h.cells.2.2.2.2.2]
theorem qI (ZO:Nat)(hNN:200<=ZO/\ZO<=299)(W:M)(R p x g c n:Nat)(f:Nat->Link)(nm tx:ByteArray)(kd G:Int)(F:Option Addr)(ZQ c4:Nat)(w:M)(hO:Only R W w)(hR:R<W.heap.size)(hb:W.heap.size<=x)(hbw:x<=w.heap.size)(hr:Rd w R p)(hp:p<=50000)(Fn:w.ownsRow x 91 4 (Z (T (Q g 0 Y)) n c) n (bq f n))(hn:n<=ZO)(Fm:∀j,j<n->(f j).e.size<=5000):Calls Tryz.prog 122 #[.pointer (T (Q R 0 Y)),ZH #[U nm,N I kd,N I G,U tx,Z F ZQ c4,Z (T (Q g 0 Y)) n c]] w λe w'=>DL ZO W w R x g (U nm) (N I kd) (N I G) (U tx) (Z F ZQ c4) (p+10) e w':=by
 have ZK:=ae (II (v0:=U nm) (v1:=N I kd) (v2:=N I G) (v3:=U tx) (v4:=Z F ZQ c4) hO hR hb hbw hr Fn Fm);obtain⟨DH,hi,DQ,DS,Fd⟩:=IL;clear hO hR hb hbw hr Fn Fm;obtain⟨-,-,-,-,-,ZM⟩:=ZK.bx.cells;have O:=ZK.bx.lt;by_cases hz:n=0
 ·subst hz;go_enter func122,ntmps122;go_wp2_with fail;generalize World.alloc (World.alloc w _) _=W0 at ZK ZM O ⊢;clear ZM O;refine(eh R _ _ ZK.rd (by omega)).mono ?_;rintro e w1 ⟨ln,rfl,KV,bt,dg⟩;have L1:=ae (ZK.G dg bt);clear dg bt ZK;go_wp2_with fail;refine(au R _ 2 _ L1.rd (by omega) (by omega) (by omega)).mono ?_;rintro e ZR ⟨z,rfl,ph,ur,la,fd⟩;have ZS:=ae (L1.G fd la);clear fd la L1;obtain⟨bh,KZ⟩:∃b:Bool,(z=0/\b=ZG)∨(z=1/\b=ZA):=by rcases(show z=0∨z=1 by omega) with h|h<;>simp[h]
  have A3:=(q9 ZR).alloc ly (J #[U ln,ZD ZA,ZD bh,N I 0] 91);have h2:=ZS.lt;have h3:=ZS.hbw;have O3:(ZR.alloc (J #[U ln,ZD ZA,ZD bh,N I 0] 91)).ownsRow x 91 4 (Z (T (Q ZR.heap.size 0 Y)) 1 1) 1 (bq (λ_=>⟨ln,ZA,bh,0⟩) 1):=mI (cs:=#[U ln,ZD ZA,ZD bh,N I 0]) (by omega) (by unfold maxLen;omega) rfl;have o:=ae ((ZS.aa A3).setB (qH _ _) O3 (.inr (by omega)) (λj _=>by show ln.size<=5000;omega));obtain⟨-,-,-,-,-,ZM⟩:=ZS.bx.cells;have bz:=ZS.bx.fz 5;have O:=ZS.bx.lt;rw[World.setCell_alloc_past _ _ _ _ O] at o;clear A3 O3;rcases KZ with ⟨rfl,rfl⟩|⟨rfl,rfl⟩
  all_goals
   go_upto_region 3 with fail;generalize World.alloc (World.setCell ZR _ _) _=W3 at o ⊢;clear ZM bz O;obtain⟨b0,b1,b2,b3,b4,ZM⟩:=o.bx.cells;obtain⟨r0,r1,r2,r3,r4,r5⟩:=o.rs.cells;obtain⟨z0,z1,z2,z3,z4,z5⟩:=al6 o.rs.fz;have O:=o.bx.lt;have lr:=o.rs.lt;have FN:=ae (o.fin (ZO:=ZO) (ZN:=p+10) (by omega) (by omega) (U nm) (N I kd) (N I G) (U tx) (Z F ZQ c4) (Z (T (Q ZR.heap.size 0 Y)) 1 1));have FB:=ae (o.rs.six (U nm) (N I kd) (N I G) (U tx) (Z F ZQ c4) (Z (T (Q ZR.heap.size 0 Y)) 1 1));go_wp2;generalize World.setCell (World.setCell (World.setCell (World.setCell (World.setCell (World.setCell W3 _ _) _ _) _ _) _ _) _ _) _ _=V at FN FB ⊢;obtain⟨x0,x1,x2,x3,x4,x5⟩:=FB.cells;exact bp (v:=ZH #[U nm,N I kd,N I G,U tx,Z F ZQ c4,Z (T (Q ZR.heap.size 0 Y)) 1 1]) (by simp[results,results122,go_sem,x0,x1,x2,x3,x4,x5]) rfl FN.out
 have nz:¬ ((n:Int)=0):=by omega
 go_enter func122,ntmps122;go_wp2_with fail;generalize World.alloc (World.alloc w _) _=W0 at ZK ZM O ⊢;refine(au R _ (n:Int) _ ZK.rd (by omega) (by omega) (by omega)).mono ?_;rintro e w1 ⟨z,rfl,ph,ur,bt,dg⟩;obtain⟨k,rfl⟩:=AP ph;have E:k<n:=by omega
 have L1:=ae (ZK.G dg bt);clear dg bt ZK ZM O ph ur;go_wp2_with fail;refine(au R _ 7 _ L1.rd (by omega) (by omega) (by omega)).mono ?_;rintro e ZR ⟨s,rfl,hs0,hs1,la,fd⟩;have ZS:=ae (L1.G fd la);clear fd la L1;have hn1:=ZS.nm k E;have SB:Hid (∀V:M,LBx V w.heap.size (U nm) (N I kd) (N I G) (U tx) (Z F ZQ c4) (Z (T (Q g 0 Y)) n c)->A V (Q w.heap.size 5 Y)=T (Z (T (Q g 0 Y)) n c)):=λV h=>h.cells.2.2.2.2.2;go_upto_block 0 with fail;go_cut [] (λwx=>∃(q' ZL H X:Nat) (f':Nat->Link),q'<=p+10/\H<=ZO+1/\Hid (LStD W w R x g (U nm) (N I kd) (N I G) (U tx) (Z F ZQ c4) wx q' ZL H X f'));case rest =>clear ZS SB hn1;obtain⟨q',ZL,H,X,f',hq',JT,l⟩:=hcut;go_upto_region 21 with fail;obtain⟨b0,b1,b2,b3,b4,ZM⟩:=l.bx.cells;obtain⟨r0,r1,r2,r3,r4,r5⟩:=l.rs.cells;obtain⟨z0,z1,z2,z3,z4,z5⟩:=al6 l.rs.fz;have O:=l.bx.lt;have lr:=l.rs.lt;have FN:=ae (l.fin (ZO:=ZO) (ZN:=p+10) (by omega) (by omega) (U nm) (N I kd) (N I G) (U tx) (Z F ZQ c4) (Z (T (Q ZL 0 Y)) H X));have FB:=ae (l.rs.six (U nm) (N I kd) (N I G) (U tx) (Z F ZQ c4) (Z (T (Q ZL 0 Y)) H X));go_wp2;generalize World.setCell (World.setCell (World.setCell (World.setCell (World.setCell (World.setCell wc _ _) _ _) _ _) _ _) _ _) _ _=V at FN FB ⊢;obtain⟨x0,x1,x2,x3,x4,x5⟩:=FB.cells;exact bp (v:=ZH #[U nm,N I kd,N I G,U tx,Z F ZQ c4,Z (T (Q ZL 0 Y)) H X]) (by simp[results,results122,go_sem,x0,x1,x2,x3,x4,x5]) rfl FN.out
 rcases(show(s=0∨s=1∨s=2∨s=3)∨s=4∨s=5∨s=6 by omega) with (rfl|rfl|rfl|rfl)|rfl|rfl|rfl;rotate_left 4
 ·obtain⟨m,rfl⟩:∃m,n=m+1:=⟨n - 1,by omega⟩
  have hcap:=j6 ZS.i;obtain⟨-,-,-,-,-,ZM⟩:=ZS.bx.cells;have bz:=ZS.bx.fz 5;have O:=ZS.bx.lt;have o:=ae (ZS.setB (qH _ _) (F9 ZS.i (F6 m)) (.inl rfl) (λj hj=>ZS.nm j (by omega)));have hw:IntKind.i64.wrap (((m+1:Nat):Int) - 1)=(m:Int):=by rw[p9];omega
  go_wp2;go_meet;exact⟨_,_,_,_,_,by omega,by omega,o⟩
 ·go_wp2_with fail;refine aD (λV=>A V (Q w.heap.size 5 Y)=T (Z (T (Q g 0 Y)) n c)) 10 (by kernel_rfl) ?_;have o:=ae (ZS.aa br.drew);clear ZS;generalize ZR.drew=t at o ⊢;have r:=ae (SB t o.bx);iterate 6
   refine aJ 0 (v:=?_) rfl rfl (by kernel_rfl) (λ_ _ _ h=>h) rfl ?_ r ?_;rotate_left
   ·(intro wz s0;go_simp)
    (try with_reducible rfl)
   (try simp only[Act.put,nzL])
  have e0:=(cX (j:=0) o.i E (by omega) rfl).1;have e1:=(cX (j:=1) o.i E (by omega) rfl).1;have e2:=(cX (j:=2) o.i E (by omega) rfl).1;have e3:=(cX (j:=3) o.i E (by omega) rfl).1;rw[P6] at e0;refine ah (i:=6) rfl (by kernel_rfl) λK q=>?_;go_simp;refine q _ _ (λ_=>r) ?_;clear q K
  (try simp only[Act.put,nzL])
  clear e0 e1 e2 e3;refine ah (i:=7) rfl (by kernel_rfl) λK q=>?_;go_simp;have A4:=(q9 t).alloc ly (J #[U (f k).e,ZD (f k).ask,ZD (f k).has,N I (f k).L] 91);have l:=ae (o.aa A4);have HN:Hid (∀j u,(cQ (f k))[j]?=T u->(t.alloc (J #[U (f k).e,ZD (f k).ask,ZD (f k).has,N I (f k).L] 91)).cell? (((Q t.heap.size 0 Y):Addr).add j)=T u):=(mI (base:=0) (e:=91) (size:=4) (n:=1) (cs:=#[U (f k).e,ZD (f k).ask,ZD (f k).has,N I (f k).L]) (E4 _) (by unfold maxLen;omega) rfl).cells rfl;have hl3:=o.lt;have hl3':=o.hbw;have hz3:(t.alloc (J #[U (f k).e,ZD (f k).ask,ZD (f k).has,N I (f k).L] 91)).heap.size=t.heap.size+1:=by simp
  clear A4 r;have r:=ae (SB _ l.bx);refine q _ _ (λ_=>r) ?_;clear q K
  (try simp only[Act.put,nzL])
  refine ah (i:=8) rfl (by kernel_rfl) (λK q=>?_);refine step_append_lies _ rfl (.tmp 110) (.tmp 116) 44 rfl x 91 DH (ZH #[U ⟨#[]⟩,ZD ZA,ZD ZA,N I 0]) 4 32 Q2 hi DQ DS Fd rfl (by decide) (Z (T (Q g 0 Y)) n c) n (bq f n) (by simp[Act.eval]) l.i (Q t.heap.size 0 Y) 1 1 (cQ (f k)) (by simp[Act.eval]) rfl HN.out (by simp[cQ,Value.oneCell']) (by omega) (by unfold maxLen;omega) (by omega) (by omega) _ rfl ?_;intro g5 c5 P ZP D aq Bk;rw[vR f n (f k)] at ZP;have G5:=ae D;have O5:=ae ZP;have sm:g5=g∨w.heap.size<=g5:=by
   rcases aq with h|h;{exact .inl (by simpa[Value.ownBlock] using h.symm)};{exact .inr (by omega)}
  have BX:Hid (LBx P w.heap.size (U nm) (N I kd) (N I G) (U tx) (Z F ZQ c4) (Z (T (Q g 0 Y)) n c)):=l.bx.ad (D.block _ l.bx.lt (λe=>l.gne.1 (by simpa[Value.ownBlock] using e.symm)));clear ZP D aq Bk HN r;have r:=ae (SB P BX);refine q _ _ (λ_=>r) ?_;clear q K
  (try simp only[Act.put,nzL])
  refine ah (i:=9) rfl (by kernel_rfl) λK q=>?_;go_simp;refine q _ _ (λ_=>r) ?_;clear q K
  (try simp only[Act.put,nzL])
  have L6:=ae (l.setB G5 O5 sm (λj hj=>by show(if j=n then f k else f j).e.size<=5000;split;exact hn1;exact l.nm j (by omega)));obtain⟨-,-,-,-,-,ZM⟩:=BX.cells;have bz:=BX.fz 5;have O:=BX.lt;refine ah (i:=10) rfl (by kernel_rfl) λK q=>?_;go_simp;refine q _ _ (λh=>absurd rfl h) ?_;clear q K r
  (try simp only[Act.put,nzL])
  refine aX (by kernel_rfl) ?_ _;clear ZM bz O BX G5 O5 l;go_wp2;go_meet;exact⟨_,_,_,_,_,by omega,by omega,L6⟩
 ·go_wp2_with fail;refine(au R _ 2 _ ZS.rd (by omega) (by omega) (by omega)).mono ?_;rintro e w3 ⟨z,rfl,ph,ur,GS,Fk⟩;have o:=ae (ZS.G Fk GS);clear Fk GS ZS hn1 SB E;have hw:IntKind.i64.wrap (200+z)=200+z:=by rw[p9];omega
  go_wp2_with fail;go_loopw [] (λwr=>∃(ZL H X:Nat) (f':Nat->Link),H<=ZO+1/\Hid (LStD W w R x g (U nm) (N I kd) (N I G) (U tx) (Z F ZQ c4) wr (p+1+1+1) ZL H X f')) (λwr=>300 - nI wr w.heap.size);case atStart=>exact⟨g,n,c,f,by omega,o⟩
  case round =>
   obtain⟨ZL,H,X,f',JT,l⟩:=hrel;obtain⟨-,-,-,-,-,ZM⟩:=l.bx.cells;have O:=l.bx.lt;have qr:=l.lt;have n9:=l.hbw;clear o;by_cases Bk:(H:Int)<200+z
   ·have B:=ae (l.aa ((q9 wr).alloc ly (J #[U ⟨#[97]⟩,ZD ZA,ZD ZG,N I 0] 91)));have HN:Hid (∀j u,(cQ ⟨⟨#[97]⟩,ZA,ZG,0⟩)[j]?=T u->(wr.alloc (J #[U ⟨#[97]⟩,ZD ZA,ZD ZG,N I 0] 91)).cell? (((Q wr.heap.size 0 Y):Addr).add j)=T u):=(mI (base:=0) (e:=91) (size:=4) (n:=1) (cs:=#[U ⟨#[97]⟩,ZD ZA,ZD ZG,N I 0]) (E4 _) (by unfold maxLen;omega) rfl).cells rfl;have hz5:(wr.alloc (J #[U ⟨#[97]⟩,ZD ZA,ZD ZG,N I 0] 91)).heap.size=wr.heap.size+1:=by simp
    go_wp2_with (at_builtin;refine wpList_append_lies _ rfl (.tmp 36) (.tmp 38) 44 rfl x 91 DH (ZH #[U ⟨#[]⟩,ZD ZA,ZD ZA,N I 0]) 4 32 Q2 hi DQ DS Fd rfl (by decide) (Z (T (Q ZL 0 Y)) H X) H (bq f' H) (by simp[Act.eval]) B.i (Q wr.heap.size 0 Y) 1 1 (cQ ⟨⟨#[97]⟩,ZA,ZG,0⟩) (by simp[Act.eval]) rfl HN.out (by simp[cQ,Value.oneCell']) (by omega) (by unfold maxLen;omega) (by omega) (by omega) _ rfl ?_;intro g5 c5 P ZP D aq Hx;have BX:Hid (LBx P w.heap.size (U nm) (N I kd) (N I G) (U tx) (Z F ZQ c4) (Z (T (Q ZL 0 Y)) H X)):=B.bx.ad (D.block _ B.bx.lt (λe=>B.gne.1 (by simpa[Value.ownBlock] using e.symm)));rw[vR f' H] at ZP;have sm:g5=ZL∨w.heap.size<=g5:=(by rcases aq with h|h;exact .inl (by simpa[Value.ownBlock] using h.symm);exact .inr (by omega));have L6:=ae (B.setB D ZP sm (λj hj=>(by show(if j=H then (⟨⟨#[97]⟩,ZA,ZG,0⟩:Link) else f' j).e.size<=5000;split;exact(by decide);exact B.nm j (by omega))));obtain⟨-,-,-,-,-,q5⟩:=BX.cells;have qz:=BX.fz 5;have ql:=BX.lt;clear ZP D aq Hx sm);refine⟨⟨g5,H+1,c5,_,by omega,L6⟩,?_⟩;have e1:=l.bx.len;have e2:=L6.bx.len;show 300 - nI _ _<300 - nI _ _;rw[e1,e2];omega
   {skip;go_wp2;go_meet;exact⟨_,_,_,_,_,by omega,by omega,l⟩}
 focus
  go_wp2_with fail;refine aD (λV=>A V (Q w.heap.size 5 Y)=T (Z (T (Q g 0 Y)) n c)) 7 (by kernel_rfl) ?_;have o:=ae (ZS.aa br.drew);clear ZS;generalize ZR.drew=t at o ⊢;have r:=ae (SB t o.bx)
  iterate 4
   refine aJ 0 (v:=?_) rfl rfl (by kernel_rfl) (λ_ _ _ h=>h) rfl ?_ r ?_;rotate_left
   ·(intro wz s0;go_simp)
    (try with_reducible rfl)
   (try simp only[Act.put,nzL])
  refine ah (i:=4) rfl (by kernel_rfl) λK q=>?_;go_simp;go_at_call 87;refine(eh R _ _ o.rd (by omega)).mono ?_;rintro e C ⟨ln,rfl,KV,S,L⟩;have l:=ae (o.G L S);clear L S o r;have r:=ae (SB C l.bx);refine q _ _ (λ_=>r) ?_;clear q K
  (try simp only[Act.put,nzL])
  iterate 2
   refine cD 5 rfl rfl (by kernel_rfl) λK q=>?_;go_simp;refine q _ _ (λ_=>r) ?_;clear q K
   (try simp only[Act.put,nzL])
  obtain⟨ZJ,d1⟩:=cX (j:=0) l.i E (by omega) rfl;rw[P6] at ZJ d1;have gl:=l.gne.2.2.2;have B:Hid (LStD W w R x g (U nm) (N I kd) (N I G) (U tx) (Z F ZQ c4) (C.setCell (Q g (k*4) Y) (U ln)) _ g n c _):=l.setL (j:=0) (y:={ f k with e:=ln }) (u:=U ln) E (by omega) rfl (by show ln.size<=5000;omega)
 rotate_left;have M1:=True.intro;iterate 2
  focus
   go_wp2_with fail;first|(guard_hyp M1;refine aD (λV=>A V (Q w.heap.size 5 Y)=T (Z (T (Q g 0 Y)) n c)/\A V (Q g (k*4+1) Y)=T (ZD (f k).ask)) 12 (by kernel_rfl) ?_)|refine aD (λV=>A V (Q w.heap.size 5 Y)=T (Z (T (Q g 0 Y)) n c)/\A V (Q g (k*4+2) Y)=T (ZD (f k).has)) 12 (by kernel_rfl) ?_
   have l:=ae (ZS.aa br.drew);clear ZS;generalize ZR.drew=t at l ⊢;first|(guard_hyp M1;obtain⟨ZJ,d1⟩:=cX (j:=1) l.i E (by omega) rfl)|obtain⟨ZJ,d1⟩:=cX (j:=2) l.i E (by omega) rfl
   first|(guard_hyp M1;have r:Hid (A t (Q w.heap.size 5 Y)=T (Z (T (Q g 0 Y)) n c)/\A t (Q g (k*4+1) Y)=T (ZD (f k).ask)):=⟨SB t l.bx,ZJ⟩)|have r:Hid (A t (Q w.heap.size 5 Y)=T (Z (T (Q g 0 Y)) n c)/\A t (Q g (k*4+2) Y)=T (ZD (f k).has)):=⟨SB t l.bx,ZJ⟩
   clear ZJ
   iterate 10
    refine aJ 0 (v:=?_) rfl rfl (by kernel_rfl) (λ_ _ _ h=>h) rfl ?_ r ?_;rotate_left
    ·(rintro wz ⟨s0,s1⟩;go_simp)
     (try with_reducible rfl)
    (try simp only[Act.put,nzL])
   iterate 2
    refine cD 10 rfl rfl (by kernel_rfl) λK q=>?_;go_simp;refine q _ _ (λ_=>r) ?_;clear q K
    (try simp only[Act.put,nzL])
   have ZJ:=r.2;have gl:=l.gne.2.2.2;first|(guard_hyp M1;have B:Hid (LStD W w R x g (U nm) (N I kd) (N I G) (U tx) (Z F ZQ c4) (t.setCell (Q g (k*4+1) Y) (ZD (!(f k).ask))) _ g n c _):=l.setL (j:=1) (y:={ f k with ask:=!(f k).ask }) (u:=ZD (!(f k).ask)) E (by omega) rfl hn1)|have B:Hid (LStD W w R x g (U nm) (N I kd) (N I G) (U tx) (Z F ZQ c4) (t.setCell (Q g (k*4+2) Y) (ZD (!(f k).has))) _ g n c _):=l.setL (j:=2) (y:={ f k with has:=!(f k).has }) (u:=ZD (!(f k).has)) E (by omega) rfl hn1
  rotate_left
 focus
  go_wp2_with fail;refine aD (λV=>A V (Q w.heap.size 5 Y)=T (Z (T (Q g 0 Y)) n c)/\A V (Q g (k*4+3) Y)=T (N I (f k).L)) 17 (by kernel_rfl) ?_;have o:=ae (ZS.aa br.drew);clear ZS;generalize ZR.drew=t at o ⊢;have r:Hid (A t (Q w.heap.size 5 Y)=T (Z (T (Q g 0 Y)) n c)/\A t (Q g (k*4+3) Y)=T (N I (f k).L)):=⟨SB t o.bx,(cX (j:=3) o.i E (by omega) rfl).1⟩
  iterate 10
   refine aJ 0 (v:=?_) rfl rfl (by kernel_rfl) (λ_ _ _ h=>h) rfl ?_ r ?_;rotate_left
   ·(rintro wz ⟨s0,s1⟩;go_simp)
    (try with_reducible rfl)
   (try simp only[Act.put,nzL])
  refine aJ 11 (v:=?_) rfl rfl (by kernel_rfl) (λ_ _ _ h=>h) rfl ?_ r ?_;rotate_left
  ·(rintro wz ⟨s0,s1⟩;go_simp)
   (try with_reducible rfl)
  (try simp only[Act.put,nzL])
  generalize IntKind.i64.wrap ((f k).L+1)=ax;refine uX (i:=10) (j:=12) rfl rfl (by kernel_rfl) (λK q=>?_) λK q=>?_
  focus
   go_simp;have A4:=(q9 t).alloc ly (J #[N I (-1),N I 0,N I ax,N I 400] 3);have HL:Hid ((t.alloc (J #[N I (-1),N I 0,N I ax,N I 400] 3)).heap[t.heap.size]?=T (J #[N I (-1),N I 0,N I ax,N I 400] 3 (0,0))):=nL t _;have l:=ae (o.aa A4);have qr:=o.lt;have n9:=o.hbw;have th:=o.hR;have At:=o.hb;have ro:t.heap.size≠R:=by omega
   clear A4 r qr n9 th At;generalize World.alloc t _=C at l HL ⊢;generalize t.heap.size=DE at HL ro ⊢;have r:Hid (A C (Q w.heap.size 5 Y)=T (Z (T (Q g 0 Y)) n c)/\A C (Q g (k*4+3) Y)=T (N I (f k).L)):=⟨SB C l.bx,(cX (j:=3) l.i E (by omega) rfl).1⟩
   refine q _ _ (λ_=>r) ?_;clear q K
   (try simp only[Act.put,nzL])
   refine ah (i:=12) rfl (by kernel_rfl) λK q=>?_;go_simp;go_at_call 40;refine(au R _ 4 _ l.rd (by omega) (by omega) (by omega)).mono ?_;rintro e P ⟨z4,rfl,mv,Id,S,L⟩;obtain⟨m,rfl⟩:=AP mv;have hm:m<4:=by omega
   have B:=ae (l.G L S);have HL:=ae ((L.block DE (ag HL) ro).trans HL);clear L S l r;have r:Hid (A P (Q w.heap.size 5 Y)=T (Z (T (Q g 0 Y)) n c)/\A P (Q g (k*4+3) Y)=T (N I (f k).L)):=⟨SB P B.bx,(cX (j:=3) B.i E (by omega) rfl).1⟩
   refine q _ _ (λ_=>r) ?_;clear q K
   (try simp only[Act.put,nzL])
  rotate_left
  focus
   go_simp;go_at_call 40;refine(au R _ 4 _ o.rd (by omega) (by omega) (by omega)).mono ?_;rintro e C ⟨z4,rfl,mv,Id,S,L⟩;obtain⟨m,rfl⟩:=AP mv;have hm:m<4:=by omega
   have l:=ae (o.G L S);clear L S o r;have r:Hid (A C (Q w.heap.size 5 Y)=T (Z (T (Q g 0 Y)) n c)/\A C (Q g (k*4+3) Y)=T (N I (f k).L)):=⟨SB C l.bx,(cX (j:=3) l.i E (by omega) rfl).1⟩
   refine q _ _ (λ_=>r) ?_;clear q K
   (try simp only[Act.put,nzL])
   refine ah (i:=10) rfl (by kernel_rfl) λK q=>?_;go_simp;have A4:=(q9 C).alloc ly (J #[N I (-1),N I 0,N I ax,N I 400] 3);have HL:Hid ((C.alloc (J #[N I (-1),N I 0,N I ax,N I 400] 3)).heap[C.heap.size]?=T (J #[N I (-1),N I 0,N I ax,N I 400] 3 (0,0))):=nL C _;have B:=ae (l.aa A4);have qr:=l.lt;have n9:=l.hbw;have th:=l.hR;have At:=l.hb;have ro:C.heap.size≠R:=by omega
   clear A4 r qr n9 th At;generalize World.alloc C _=P at B HL ⊢;generalize C.heap.size=DE at HL ro ⊢;have r:Hid (A P (Q w.heap.size 5 Y)=T (Z (T (Q g 0 Y)) n c)/\A P (Q g (k*4+3) Y)=T (N I (f k).L)):=⟨SB P B.bx,(cX (j:=3) B.i E (by omega) rfl).1⟩
   refine q _ _ (λ_=>r) ?_;clear q K
   (try simp only[Act.put,nzL])
  all_goals
   have l:=B;clear B;obtain⟨zz,hzz⟩:=Ga HL m hm
   iterate 4
    refine cD 13 rfl rfl (by kernel_rfl) λK q=>?_;go_simp;refine q _ _ (λ_=>r) ?_;clear q K
    (try simp only[Act.put,nzL])
   have ZJ:=r.2;have d1:=(cX (j:=3) l.i E (by omega) rfl).2;have gl:=l.gne.2.2.2;have B:Hid (LStD W w R x g (U nm) (N I kd) (N I G) (U tx) (Z F ZQ c4) (P.setCell (Q g (k*4+3) Y) (N I zz)) _ g n c _):=l.setL (j:=3) (y:={ f k with L:=zz }) (u:=N I zz) E (by omega) rfl hn1
 all_goals
  refine cD 0 rfl rfl (by kernel_rfl) λK q=>?_;go_simp;refine q _ _ (λh=>absurd rfl h) ?_;clear q K r
  (try simp only[Act.put,nzL])
  refine aX (by kernel_rfl) ?_ _;clear ZJ d1 gl l;go_wp2;go_meet;exact⟨_,_,_,_,_,by omega,by omega,B⟩
abbrev DC (V:M)(g q:Nat)(d:Deed)(b c h f:Nat):Prop:=A V (Q g q Y)=T (U d.e)/\A V (Q g (q+1) Y)=T (N I d.m)/\A V (Q g (q+2) Y)=T (N I d.E)/\A V (Q g (q+3) Y)=T (U d.B)/\A V (Q g (q+4) Y)=T (Z (T (Q b 0 Y)) d.f c)/\A V (Q g (q+5) Y)=T (Z (T (Q h 0 Y)) d.b f)
theorem pF{g i f c:ByteArray}{fz:Nat × Nat}(h:w.heap[b]?=T (J #[U g,U i,U f,U c] t fz))(l:g.size<=5000)(h1:i.size<=5000)(h2:f.size<=5000)(h3:c.size<=5000)(k:Nat)(m:k<4):∃s:ByteArray,s.size<=5000/\A w (Q b k Y)=T (U s):=by
 match k,m with
 |0,_=>exact⟨g,l,by simp[World.cell?,h]⟩
 |1,_=>exact⟨i,h1,by simp[World.cell?,h]⟩
 |2,_=>exact⟨f,h2,by simp[World.cell?,h]⟩
 |3,_=>exact⟨c,h3,by simp[World.cell?,h]⟩
 |j+4,h5=>exact absurd h5 (by omega)
theorem DP.up{q lo:Nat}{e:Ending}{w':M}(h:DP w R q lo n e w')(hn:n<=m):DP w R q lo m e w':=by obtain⟨L,g,c,h1,h2,h3,h4,b⟩:=h;exact⟨L,g,c,h1,h2,h3,p7 h4 hn,b⟩
theorem Ds{K:Nat}{p f:Nat}{r:DR}(h:DSub W g r)(m:r.2.1=Z (T (Q c 0 Y)) r.1.f f)(hR:Rd W R p)(l:p<=20000)(j:FitK K r.1)(hK:K<=80):Calls Tryz.prog 96 #[.pointer (T (Q R 0 Y)),ZH #[Z (T (Q c 0 Y)) r.1.f f]] W λe n=>DP W R (p+1000) 0 (200+K+1) e n:=by
 by_cases i:r.1.f=0;{rw[i];exact(xy R p c f W hR l).mono λ_ _ h=>h.up (by omega)}
 ·obtain⟨a,cap,e,s⟩:=h.ins;rw[m] at e;obtain⟨rfl,-,-⟩:=TU e;rcases s with h1|⟨b,off,q,o⟩
  {exact absurd h1 i}
  ·cases q
   exact vC (200+K) ⟨by omega,by omega⟩ R p c f r.1.f r.1.H W hR l o ⟨by omega,j.an⟩ j.asz
theorem Dt (JT:GM)(K0 ZJ:Nat)(hK0:K0+1<=ZJ)(hKK:ZJ<=50)(R p:Nat)(a:Option Addr)(n cap:Nat)(f:Nat->Deed)(w:M)(hf:SlDeed w a n f)(Lt:∀i,i<n->FitK K0 (f i))(hn:n<=450+K0)(hR:Rd w R p)(hp:p<=19000):Calls Tryz.prog 66 #[.pointer (T (Q R 0 Y)),ZH #[Z a n cap]] w λe w'=>DAK ZJ w R (p+1100) e w':=by
 have Nb:=ae JT;clear JT;have HF:=ae hf;have Lo:=ae Lt;have HR:=ae hR;have Ly:=hR.lt;clear hf Lt hR;have A0:=ae (((q9 w).alloc ly (J #[Z a n cap] 37)).alloc (by simp) (J #[Z Y 0 0] 37));have LF:Hid (((w.alloc (J #[Z a n cap] 37)).alloc (J #[Z Y 0 0] 37)).heap[w.heap.size+1]?=T (J #[Z Y 0 0] 37 (0,0))):=by have h:=nL (w.alloc (J #[Z a n cap] 37)) (J #[Z Y 0 0] 37);rw[show(w.alloc (J #[Z a n cap] 37)).heap.size=w.heap.size+1 by simp] at h;exact h
 have aq:((w.alloc (J #[Z a n cap] 37)).alloc (J #[Z Y 0 0] 37)).heap.size=w.heap.size+2:=by simp
 go_enter func66,ntmps66;go_wp2_with fail;generalize World.alloc (World.alloc w _) _=W0 at A0 LF aq ⊢;refine(Dk a n cap f _ (by omega) (HF.aa A0 ly) (λi hi=>((Lo i hi).d (by omega)).fits)).mono ?_;rintro e w1 ⟨a1,c1,D,rfl,hD,GS,Lx,DH⟩;have mv:=ae Lx;have Mq:=ae hD.up;clear Lx;have hl:D.length=n:=by have:=wA List.length GS;simpa using this
 have Fd:Hid (∀r∈D,FitK K0 r.1):=λr hr=>by have hm:r.1∈D.map (·.1):=QX.2 ⟨r,hr,rfl⟩;rw[GS] at hm;obtain⟨i,hi,e⟩:=QX.1 hm;rw[<-e];exact Lo i (PL.1 hi)
 have Mm:=DH.size;have B2:=(q9 w1).alloc ly (J #[Z a1 D.length c1] 37);have S1:Hid (SpS ZJ w R w1.heap.size (w1.alloc (J #[Z a1 D.length c1] 37)) p a1 c1 D):=by have O1:Only R w w1:=(Only.u A0).trans (Only.u (DH.mono (by omega)));exact⟨((HR.aa A0 ly).aa DH (by omega)).aa B2 ly,O1.trans (Only.u B2),(B2.block _ (by omega)).trans ((DH.block _ (by omega)).trans LF),nL w1 _,((hD.rw.aa B2 ly).mono (by omega)),λr hr=>(Fd r hr).up (by omega),Ly,by omega,by omega⟩
 have hX:w.heap.size+2<=w1.heap.size:=by omega
 have hD9:D.length<=450+K0:=by omega
 clear hD DH B2 Mm aq A0 LF HF Lo HR GS hl;go_upto_region 2 with fail;generalize World.alloc w1 _=W1 at S1 ⊢;generalize w1.heap.size=X at S1 hX ⊢;have bx:=S1.ab.1;by_cases hz:D.length=0
 ·obtain rfl:D=[]:=PT.1 hz;rw[nX] at bx;clear hz;go_wp2_with fail;refine(au R _ 2 _ S1.rd (by omega) (by omega) (by omega)).mono ?_;rintro e w2 ⟨x,rfl,x0,x1,DE,th⟩;have F:=ae (S1.G th DE);clear th DE S1 bx;go_wp2_with fail;refine(au R _ 3 _ F.rd (by omega) (by omega) (by omega)).mono ?_;rintro e ZR ⟨y,rfl,y0,y1,Fk,DS⟩;have l:=ae (F.G DS Fk);clear DS Fk F;obtain⟨m,hm⟩:∃m:Nat,400*x+y=(m:Int):=⟨(400*x+y).toNat,by omega⟩
  have MH:IntKind.i64.wrap (400*x)=400*x:=by rw[p9];omega
  have MK:m<=450:=by omega
  have hw2:IntKind.i64.wrap (m:Int)=(m:Int):=by rw[p9];omega
  have hmk:=λw=>Jc m (by omega) w;have rs:=l.rs;have r0:A ZR (Q (w.heap.size+1) 0 Y)=T (Z Y 0 0):=by simp[World.cell?,rs]
  have f0:ZR.frozen? (Q (w.heap.size+1) 0 Y)=ZA:=by simp[World.frozen?,rs]
  have l0:=ag rs;have FN:=ae (Dm (m:=m) (ZN:=p+1100) l MK (by omega));clear rs;go_wp2;exact bp (v:=ZH #[Z (T (Q ZR.heap.size 0 Y)) m m]) (by simp[results,results66,go_sem,r0,l0]) rfl FN.out
 obtain⟨g,Nc,e⟩:=cC S1.row.i (by omega);obtain⟨rfl,-,-⟩:=TU e;clear e Nc;have nz:¬ ((D.length:Int)=0):=by omega
 go_wp2_with fail;refine(au R _ (D.length:Int) _ S1.rd (by omega) (by omega) (by omega)).mono ?_;rintro e w2 ⟨z,rfl,aq,ph,DE,th⟩;obtain⟨k,rfl⟩:=AP aq;have hk:k<D.length:=by omega
 have S0:=ae (S1.G th DE);clear th DE S1 aq ph bx;obtain⟨r,hr,hm⟩:=cZ hk;have ZQ:=ae hr;have HM:=ae hm;clear hr hm;go_wp2_with fail;refine(au R _ 13 _ S0.rd (by omega) (by omega) (by omega)).mono ?_;rintro e ZR ⟨s,rfl,hs0,Mm,Fk,DS⟩;have F:=ae (S0.G DS Fk);clear DS Fk S0;have Lh:=Fd r HM;have ZM:=Lh.up (show K0<=ZJ by omega);have htx:=Lh.tx;have MZ:=Lh.ln;go_upto_block 0 with fail;go_cut [8,9,10,11,12] (λ_ _ _ _ _ wx=>∃(a':Option Addr) (c' q':Nat) (D':List DR),q'<=p+1100/\Hid (SpS ZJ w R X wx q' a' c' D'));case first =>
  rcases(show(s=0∨s=1∨s=2∨s=3∨s=4∨s=5)∨(s=6∨s=7∨s=8)∨s=9∨s=10∨s=11∨s=12 by omega) with (h|h|h|h|h|h)|h6|rfl|rfl|rfl|rfl;rotate_left 6
  ·as_aux_lemma =>
    obtain⟨⟨ga,ca,ea⟩,ZO,cl,el⟩:=mv.out r HM;have EA:=ae ea;have EL:=ae el;clear ea el;rcases h6 with rfl|rfl|rfl;iterate 3
     ·go_wp2_with fail
      refine aD (λV=>A V (Q X 0 Y)=T (Z (T (Q g 0 Y)) D.length c1)/\DC V g (k*6) r.1 ga ca ZO cl) 11 (by kernel_rfl) ?_;have l:=ae (F.aa br.drew);clear F;generalize ZR.drew=E at l ⊢;have B:Hid (A E (Q X 0 Y)=T (Z (T (Q g 0 Y)) D.length c1)/\DC E g (k*6) r.1 ga ca ZO cl):=⟨l.ab.1,by have h:=(l.L (j:=0) ZQ (by omega) rfl).1;rwa[P6] at h,(l.L (j:=1) ZQ (by omega) rfl).1,(l.L (j:=2) ZQ (by omega) rfl).1,(l.L (j:=3) ZQ (by omega) rfl).1,(l.L (j:=4) ZQ (by omega) (by rw[<-EA.out];rfl)).1,(l.L (j:=5) ZQ (by omega) (by rw[<-EL.out];rfl)).1⟩
      iterate 9
       refine aJ 0 (v:=?_) rfl rfl (by kernel_rfl) (λ_ _ _ h=>h) rfl ?_ B ?_;rotate_left
       ·(rintro wz ⟨s0,s1,s2,s3,s4,s5,s6⟩;go_simp)
        (try with_reducible rfl)
       (try simp only[Act.put,nzL])
      refine ah (i:=9) rfl (by kernel_rfl) λK ZS=>?_;go_simp;go_at_call 122;refine(qI (200+K0) ⟨by omega,by omega⟩ w R _ (w.heap.size+2) ZO cl r.1.b r.1.D r.1.e r.1.B r.1.m r.1.E (T (Q ga 0 Y)) r.1.f ca _ l.o Ly (by omega) (by have:=l.lt;omega) l.rd (by omega) (by rw[<-EL.out];exact(l.row.sub r HM).V) MZ ZM.lsz).mono ?_;rintro e O ⟨g5,n5,c5,f5,rfl,LG,Lu,Mo,⟨q5,hq5,Ml⟩,Mf,fd⟩;obtain⟨kX,kg,Md⟩:=l.kept HM EL fd;have ZK:Hid (SpS ZJ w R X (jt O g k ({ r.1 with b:=n5,D:=f5 },Z (T (Q ga 0 Y)) r.1.f ca,Z (T (Q g5 0 Y)) n5 c5)) q5 (T (Q g 0 Y)) c1 _):=l.ao Mq ZQ HM EL Ml Mf fd _ ⟨l.actK HM EA EL fd,LG⟩ ⟨ZM.nm,ZM.tx,ZM.an,ZM.asz,by show n5<=200+ZJ;omega,Mo⟩;have F4:Hid (∀j,j<6->O.frozen? (Q g (k*6+j) Y)=ZA):=λj hj=>(JN (a:=(Q g (k*6+j) Y)) kg).trans (l.L (j:=j) ZQ hj (gq (show j<(ddV r).length from hj))).2;have Bk:Hid (A O (Q X 0 Y)=T (Z (T (Q g 0 Y)) D.length c1)/\DC O g (k*6) r.1 ga ca ZO cl):=⟨(cq (a:=(Q X 0 Y)) kX).trans B.1,(cq (a:=(Q g (k*6) Y)) kg).trans B.2.1,(cq (a:=(Q g (k*6+1) Y)) kg).trans B.2.2.1,(cq (a:=(Q g (k*6+2) Y)) kg).trans B.2.2.2.1,(cq (a:=(Q g (k*6+3) Y)) kg).trans B.2.2.2.2.1,(cq (a:=(Q g (k*6+4) Y)) kg).trans B.2.2.2.2.2.1,(cq (a:=(Q g (k*6+5) Y)) kg).trans B.2.2.2.2.2.2⟩
      clear Ml Mf fd LG Mo kX kg B l;have B:=Bk;clear Bk;refine ZS _ _ (λ_=>B) ?_;clear ZS K
      (try simp only[Act.put,nzL])
      refine ah (i:=10) rfl (by kernel_rfl) λK ZS=>?_;go_simp;refine ZS _ _ (λ_=>B) ?_;clear ZS K
      (try simp only[Act.put,nzL])
      obtain⟨-,d0,d1,d2,d3,d4,d5⟩:=B.out;have y0:=F4.out 0 (by omega);have y1:=F4.out 1 (by omega);have y2:=F4.out 2 (by omega);have y3:=F4.out 3 (by omega);have y4:=F4.out 4 (by omega);have y5:=F4.out 5 (by omega);rw[P6] at y0;refine ah (i:=11) rfl (by kernel_rfl) λK ZS=>?_;go_simp;refine ZS _ _ (λh=>absurd rfl h) ?_;clear ZS K B
      (try simp only[Act.put,nzL])
      refine aX (by kernel_rfl) ?_ _;clear d0 d1 d2 d3 d4 d5 y0 y1 y2 y3 y4 y5;go_wp2;go_meet;exact⟨_,_,_,_,by omega,ZK⟩
  ·skip;by_cases MQ:(0:Int)<(k:Int)
   ·obtain⟨m,rfl⟩:∃m,k=m+1:=⟨k - 1,by omega⟩
    have h1l:(1:Int)<(D.length:Int):=by omega
    obtain⟨r1,Mg,Lj⟩:=cZ (R:=D) (i:=m) (by omega);have ld:=ae Mg;have Lz:=ae Lj;clear Mg Lj;obtain⟨⟨ga,ca,ea⟩,ZO,cl,el⟩:=mv.out r HM;obtain⟨⟨gb,cb,eb⟩,gm,cm,em⟩:=mv.out r1 Lz;have EA:=ae ea;have EL:=ae el;have EB:=ae eb;have EM:=ae em;clear ea el eb em;have Nm:=((Fd r1 Lz).up (show K0<=ZJ by omega))
    have bx:=F.ab.1;have C2:Hid (DC ZR g ((m+1)*6) r.1 ga ca ZO cl):=⟨by have h:=(F.L (j:=0) ZQ (by omega) rfl).1;rwa[P6] at h,(F.L (j:=1) ZQ (by omega) rfl).1,(F.L (j:=2) ZQ (by omega) rfl).1,(F.L (j:=3) ZQ (by omega) rfl).1,(F.L (j:=4) ZQ (by omega) (by rw[<-EA.out];rfl)).1,(F.L (j:=5) ZQ (by omega) (by rw[<-EL.out];rfl)).1⟩
    obtain⟨e0,e1,e2,e3,e4,e5⟩:=C2.out;have AB:=ae ((q9 ZR).alloc ly (J #[U r.1.e,N I r.1.m,N I r.1.E,U r.1.B,Z (T (Q ga 0 Y)) r.1.f ca,Z (T (Q ZO 0 Y)) r.1.b cl] 46));have YB:=ae (nL ZR (J #[U r.1.e,N I r.1.m,N I r.1.E,U r.1.B,Z (T (Q ga 0 Y)) r.1.f ca,Z (T (Q ZO 0 Y)) r.1.b cl] 46));have l:=ae (F.aa AB);have hwm:IntKind.i64.wrap (((m+1:Nat):Int) - 1)=(m:Int):=by rw[p9];omega
    have hwm2:IntKind.i64.wrap (m:Int)=(m:Int):=by rw[p9];omega
    have hml:m<D.length:=by omega
    have MM:(m:Int)+1<(D.length:Int):=by omega
    have hk2:(0:Int)<=(m:Int)+1:=by omega
    have MU:((m:Int)+1).toNat=m+1:=by omega
    go_upto_region 41 with fail;generalize World.alloc ZR _=v2 at l YB ⊢;have Mx:ZR.heap.size≠g:=by have:=F.gb.2.1;omega
    generalize ZR.heap.size=yb at YB Mx ⊢;clear bx e0 e1 e2 e3 e4 e5 C2 AB F;refine aD (λV=>A V (Q X 0 Y)=T (Z (T (Q g 0 Y)) D.length c1)/\DC V g (m*6) r1.1 gb cb gm cm) 10 (by kernel_rfl) ?_;have C:=ae (l.aa br.drew);have LH:Hid (v2.drew.heap[yb]?=T (J #[U r.1.e,N I r.1.m,N I r.1.E,U r.1.B,Z (T (Q ga 0 Y)) r.1.f ca,Z (T (Q ZO 0 Y)) r.1.b cl] 46 (0,0))):=YB.out;clear l YB;generalize v2.drew=E at C LH ⊢;have B:Hid (A E (Q X 0 Y)=T (Z (T (Q g 0 Y)) D.length c1)/\DC E g (m*6) r1.1 gb cb gm cm):=⟨C.ab.1,by have h:=(C.L (j:=0) ld (by omega) rfl).1;rwa[P6] at h,(C.L (j:=1) ld (by omega) rfl).1,(C.L (j:=2) ld (by omega) rfl).1,(C.L (j:=3) ld (by omega) rfl).1,(C.L (j:=4) ld (by omega) (by rw[<-EB.out];rfl)).1,(C.L (j:=5) ld (by omega) (by rw[<-EM.out];rfl)).1⟩
    iterate 9
     refine aJ 0 (v:=?_) rfl rfl (by kernel_rfl) (λ_ _ _ h=>h) rfl ?_ B ?_;rotate_left
     ·(rintro wz ⟨s0,s1,s2,s3,s4,s5,s6⟩;go_simp)
      (try with_reducible rfl)
     (try simp only[Act.put,nzL])
    refine ah (i:=9) rfl (by kernel_rfl) λK ZS=>?_;go_simp;refine ZS _ _ (λ_=>B) ?_;clear ZS K
    (try simp only[Act.put,nzL])
    have F4:Hid (∀j,j<6->E.frozen? ⟨g,(m+1)*6+j,Y⟩=ZA/\∃u,E.cell? ⟨g,(m+1)*6+j,Y⟩=T u):=λj hj=>by have h:=C.L (j:=j) ZQ hj (gq (show j<(ddV r).length from hj));exact⟨h.2,_,h.1⟩
    obtain⟨y0,u0,d0⟩:=F4.out 0 (by omega);obtain⟨y1,u1,d1⟩:=F4.out 1 (by omega);obtain⟨y2,u2,d2⟩:=F4.out 2 (by omega);obtain⟨y3,u3,d3⟩:=F4.out 3 (by omega);obtain⟨y4,u4,d4⟩:=F4.out 4 (by omega);obtain⟨y5,u5,d5⟩:=F4.out 5 (by omega);rw[P6] at y0 d0;have Md:=C.gb.2.1;have ZK:=ae (C.six ZQ (r1.1,Z (T (Q gb 0 Y)) r1.1.f cb,Z (T (Q gm 0 Y)) r1.1.b cm) ((C.row.sub r1 Lz).av EB EM) Nm);have Lm:=ae ((fA E g (m+1) yb (r1.1,Z (T (Q gb 0 Y)) r1.1.f cb,Z (T (Q gm 0 Y)) r1.1.b cm) Mx).trans LH);have T5:Hid (DSub (jt E g (m+1) (r1.1,Z (T (Q gb 0 Y)) r1.1.f cb,Z (T (Q gm 0 Y)) r1.1.b cm)) (w.heap.size+2) (r.1,Z (T (Q ga 0 Y)) r.1.f ca,Z (T (Q ZO 0 Y)) r.1.b cl)):=by obtain⟨cs,z,hg⟩:=C.gb.2.2.2;exact((C.row.sub r HM).av EA EL).six hg
    unfold jt at ZK Lm T5;refine ah (i:=10) rfl (by kernel_rfl) λK ZS=>?_;go_simp;refine ZS _ _ (λh=>absurd rfl h) ?_;clear ZS K B
    (try simp only[Act.put,nzL])
    refine aX (by kernel_rfl) ?_ _;clear d0 d1 d2 d3 d4 d5 y0 y1 y2 y3 y4 y5 Md F4 C LH;go_upto_region 42 with fail;generalize World.setCell (World.setCell (World.setCell (World.setCell (World.setCell (World.setCell E _ _) _ _) _ _) _ _) _ _) _ _=v5 at ZK Lm T5 ⊢;have la:Hid ((D.set (m+1) (r1.1,Z (T (Q gb 0 Y)) r1.1.f cb,Z (T (Q gm 0 Y)) r1.1.b cm))[m]?=T r1):=by show _=_;rw[QU (by omega)];exact ld
    have ZL:=ae (ZK.six la (r.1,Z (T (Q ga 0 Y)) r.1.f ca,Z (T (Q ZO 0 Y)) r.1.b cl) T5 ZM);have bx:=ZK.ab.1;rw[LB] at bx;have L:=Lm.out;have q0:A v5 (Q yb 0 Y)=T (U r.1.e):=by simp[World.cell?,L]
    have q1:A v5 (Q yb 1 Y)=T (N I r.1.m):=by simp[World.cell?,L]
    have q2:A v5 (Q yb 2 Y)=T (N I r.1.E):=by simp[World.cell?,L]
    have q3:A v5 (Q yb 3 Y)=T (U r.1.B):=by simp[World.cell?,L]
    have q4:A v5 (Q yb 4 Y)=T (Z (T (Q ga 0 Y)) r.1.f ca):=by simp[World.cell?,L]
    have q5:A v5 (Q yb 5 Y)=T (Z (T (Q ZO 0 Y)) r.1.b cl):=by simp[World.cell?,L]
    have F5:Hid (∀j,j<6->v5.frozen? (Q g (m*6+j) Y)=ZA/\∃u,A v5 (Q g (m*6+j) Y)=T u):=λj hj=>by have h:=ZK.L (j:=j) la hj (gq (show j<(ddV r1).length from hj));exact⟨h.2,_,h.1⟩
    obtain⟨y0,u0,d0⟩:=F5.out 0 (by omega);obtain⟨y1,u1,d1⟩:=F5.out 1 (by omega);obtain⟨y2,u2,d2⟩:=F5.out 2 (by omega);obtain⟨y3,u3,d3⟩:=F5.out 3 (by omega);obtain⟨y4,u4,d4⟩:=F5.out 4 (by omega);obtain⟨y5,u5,d5⟩:=F5.out 5 (by omega);rw[P6] at y0 d0;have gl5:=ZK.gb.2.1;clear L ZK;go_wp2;go_meet;exact⟨_,_,_,_,by omega,ZL⟩
   ·by_cases h1:(1:Int)<(D.length:Int)
    iterate 2
     ·go_wp2
      go_meet;exact⟨_,_,_,_,by omega,F⟩
  ·as_aux_lemma =>
    have hcap:=j6 F.row.i;obtain⟨KZ,hj,aq,ph,La⟩:=OB fm;have MH:IntKind.i64.wrap ((k:Int)+1)=(k:Int)+1:=by rw[p9];omega
    have MM:(k:Int)+1<=(D.length:Int):=by omega
    have MU:((k:Int)+1).toNat=k+1:=by omega
    have hkc:(k:Int)<=(c1:Int):=by omega
    have MQ:(0:Int)<=(k:Int)+1:=by omega
    obtain⟨A2,MO,Mk⟩:=Ap (base:=w.heap.size+2) (g:=g) (c:=c1) hk (by omega);have MS:=ae Mk;clear Mk;go_wp2_with fail;refine aD (λV=>A V (Q X 0 Y)=T (Z (T (Q g 0 Y)) D.length c1)) 13 (by kernel_rfl) ?_;have l:=ae (F.aa br.drew);clear F;generalize ZR.drew=E at l ⊢;have B:=ae l.ab.1;iterate 4
     refine aJ 1 (v:=?_) rfl rfl (by kernel_rfl) (λ_ _ _ h=>h) rfl ?_ B ?_;rotate_left
     ·(intro wz s0;go_simp)
      (try with_reducible rfl)
     (try simp only[Act.put,nzL])
    iterate 5
     refine aJ 6 (v:=?_) rfl rfl (by kernel_rfl) (λ_ _ _ h=>h) rfl ?_ B ?_;rotate_left
     ·(intro wz s0;go_simp)
      (try with_reducible rfl)
     (try simp only[Act.put,nzL])
    clear MO;refine ah (i:=0) rfl (by kernel_rfl) λK ZS=>?_;go_simp;have Mt:=l.lt;have MN:=l.hX;have A4:=ae ((q9 E).alloc ly (J #[] 46));have O4:=ae (P3 (base:=w.heap.size+2) (e:=46) (size:=6) E #[] 0 (by omega) (by unfold maxLen;omega) rfl);have C:=ae (l.aa A4);have Bk:=ae C.ab.1;refine ZS _ _ (λ_=>Bk) ?_;clear ZS K
    (try simp only[Act.put,nzL])
    refine ah (i:=5) rfl (by kernel_rfl) (λK ZS=>?_);refine aG rfl (.tmp 247) (.tmp 251) 35 rfl (w.heap.size+2) 46 KZ (ZH #[U ⟨#[]⟩,N I 0,N I 0,U ⟨#[]⟩,Z Y 0 0,Z Y 0 0]) 6 96 PF hj aq ph La rfl (by decide) (Z (T (Q E.heap.size 0 Y)) 0 0) 0 [] (by simp[Act.eval]) O4.out (Q g 0 Y) k c1 ((D.take k).flatMap ddV) (by simp[Act.eval]) (by rw[eX ddV 6 (λ_=>rfl),OR,Q3 (by omega)]) (Dn k C.row.i) (λu hu=>rM D mv u (by obtain⟨ZP,h2,h3⟩:=P9.1 hu;exact P9.2 ⟨ZP,WG h2,h3⟩)) (by unfold maxLen;omega) (by omega) (by simp;omega) ?_;intro v5 w5 ro sm Lr;simp only[FM,LY] at ro;have B5:=ae (bg A4 sm (by simp) (λj e=>by simp[Value.ownBlock] at e;omega));have Lw:∀j,v5.ownBlock=T j->E.heap.size<=j:=λj e=>by
     rcases Lr with h|h;{rw[h] at e;simp[Value.ownBlock] at e;omega};{rw[h] at e;have:=BC e;simp at this;omega}
    have WB:=ae Lw;have O5:=ae ro;have ZK:=ae (l.aa B5);have Me:=ae ZK.ab.1;clear ro sm Lr Lw C O4 A4 Bk B;refine ZS _ _ (λ_=>Me) ?_;clear ZS K
    (try simp only[Act.put,nzL])
    obtain⟨a5,c5,rfl⟩:=aU O5;refine ah (i:=11) rfl (by kernel_rfl) λK ZS=>?_;refine aG rfl (.tmp 252) (.tmp 257) 35 rfl (w.heap.size+2) 46 KZ (ZH #[U ⟨#[]⟩,N I 0,N I 0,U ⟨#[]⟩,Z Y 0 0,Z Y 0 0]) 6 96 PF hj aq ph La rfl (by decide) (Z a5 k c5) k ((D.take k).flatMap ddV) (by simp[Act.eval]) O5.out A2 (D.length - (k+1)) (c1 - (k+1)) ((D.drop (k+1)).flatMap ddV) (by simp[Act.eval]) (by rw[eX ddV 6 (λ_=>rfl),LK]) (MS _ ZK.row.i) (λu hu=>rM D mv u (by obtain⟨ZP,h2,h3⟩:=P9.1 hu;exact P9.2 ⟨ZP,List.mem_of_mem_drop h2,h3⟩)) (by unfold maxLen;omega) (by omega) (by have:=B5.size;omega) ?_;intro v6 w6 bt ur _;have B6:=ae (bg B5 ur (B5.size) (λj e=>WB j e));rw[<-BO] at bt;obtain⟨a6,c6,rfl⟩:=aU bt;obtain⟨D2,Lf⟩:∃D2,D2=D.take k++D.drop (k+1):=⟨_,rfl⟩
    have Hx:D2.length=k+(D.length - (k+1)):=by rw[Lf,cM,OR,LK,Q3 (by omega)]
    rw[<-Lf,<-Hx] at bt;rw[<-Hx];have ZL:=ae (l.aa B6);have Fm:∀ZP∈D2,ZP∈D:=λZP h2=>by rw[Lf] at h2;exact(p8.1 h2).elim WG List.mem_of_mem_drop
    have S7:=ae (l.box_ B6 bt (λZP h2=>ZL.row.sub ZP (Fm ZP h2)) (λZP h2=>ZL.ak ZP (Fm ZP h2)) (by omega));clear Lf;have Li:=ae ZL.ab;clear bt ur Fm Hx ZK O5 WB Me;refine ZS _ _ (λ_=>Li.1) ?_;clear ZS K
    (try simp only[Act.put,nzL])
    refine ah (i:=12) rfl (by kernel_rfl) λK ZS=>?_;go_simp;refine ZS _ _ (λ_=>Li.1) ?_;clear ZS K
    (try simp only[Act.put,nzL])
    have d0:=Li.1;have d1:=Li.2;have MJ:=ZL.lt;refine ah (i:=13) rfl (by kernel_rfl) λK ZS=>?_;go_simp;refine ZS _ _ (λh=>absurd rfl h) ?_;clear ZS K
    (try simp only[Act.put,nzL])
    refine aX (by kernel_rfl) ?_ _;clear d0 d1 MJ l ZL;go_wp2;go_meet;exact⟨_,_,_,_,by omega,S7⟩
  ·as_aux_lemma =>
    go_wp2_with fail;refine(au R _ 3 _ F.rd (by omega) (by omega) (by omega)).mono ?_;rintro e w4 ⟨z,rfl,z0,z1,H,G⟩;have l:=ae (F.G G H);clear G H F;obtain⟨m,hm⟩:∃m:Nat,60+z - 1=(m:Int):=⟨(60+z - 1).toNat,by omega⟩
    go_wp2_with fail;refine(Nb m _ (by omega)).mono ?_;rintro e w5 ⟨a5,n5,c5,f5,rfl,LX,Lv,Lu,Mw⟩;have C:=ae (l.aa Lv);have rs:=C.rs;have r0:A w5 (Q (w.heap.size+1) 0 Y)=T (Z Y 0 0):=by simp[World.cell?,rs]
    have f0:w5.frozen? (Q (w.heap.size+1) 0 Y)=ZA:=by simp[World.frozen?,rs]
    have l0:=ag rs;have FN:=ae (l.other (ZN:=p+1100) Lv LX Lu Mw (by omega));clear rs Lv LX Lu Mw;go_wp2;try simp only[Exit.inBlock,Exit.then]
    exact bp (v:=ZH #[Z a5 n5 c5]) (by simp[results,results66,go_sem,r0]) rfl FN.out
  ·skip;have AB:=ae ((q9 ZR).alloc ly (J #[U ⟨#[117,110,117,115,101,100]⟩,N I 2,N I 0,U ⟨#[]⟩,Z Y 0 0,Z Y 0 0] 46));have FB:=ae (nL ZR (J #[U ⟨#[117,110,117,115,101,100]⟩,N I 2,N I 0,U ⟨#[]⟩,Z Y 0 0,Z Y 0 0] 46));have l:=ae (F.aa AB);have LQ:w.heap.size+2<=ZR.heap.size:=by have:=F.lt;omega
   have Mp:ZR.heap.size≠X:=by have:=F.lt;omega
   have Mh:ZR.heap.size≠g:=by have:=F.gb.2.1;omega
   go_wp2_with fail;generalize World.alloc ZR _=v2 at l FB ⊢;generalize ZR.heap.size=fb at FB LQ Mp Mh ⊢;clear AB F;go_loopg [10] D.length (λgh i wr=>∃(k2 q2:Nat) (nm tx:ByteArray) (kd:Int),k2+gh=D.length/\q2<=p+2+k2/\i=N I k2/\nm.size<=5000/\tx.size<=2000+K0/\Hid (SpS ZJ w R X wr q2 (T (Q g 0 Y)) c1 D)/\Hid (wr.heap[fb]?=T (J #[U nm,N I kd,N I 0,U tx,Z Y 0 0,Z Y 0 0] 46 (0,0))));case atStart=>exact⟨0,_,_,_,_,by omega,by omega,rfl,by decide,E4 _,l,FB⟩
   case round =>
    clear l FB;obtain⟨k2,q2,nm,tx,kd,hg2,hq2,rfl,My,MF,l,FB⟩:=hrel;have hwk:IntKind.i64.wrap ((k2:Int)+1)=(k2:Int)+1:=by rw[p9];omega
    go_upto_region 9 with fail;go_cut [41] (λNn wx=>∃(b1:Bool) (q3:Nat),Nn=ZD b1/\(b1=ZG->k2<D.length)/\q3<=q2+1/\Hid (SpS ZJ w R X wx q3 (T (Q g 0 Y)) c1 D)/\Hid (wx.heap[fb]?=T (J #[U nm,N I kd,N I 0,U tx,Z Y 0 0,Z Y 0 0] 46 (0,0))));case first =>
     by_cases Ln:(k2:Int)<(D.length:Int)
     {go_wp2_with fail;refine(au R _ 2 _ l.rd (by omega) (by omega) (by omega)).mono ?_;rintro e w4 ⟨z,rfl,z0,z1,H,G⟩;have C:=ae (l.G G H);have DQ:=ae ((G.block fb (ag FB) (by omega)).trans FB);clear G H;go_wp2;go_meet;exact⟨_,_,rfl,λ_=>by omega,by omega,C,DQ⟩};{go_wp2;go_meet;exact⟨_,_,rfl,λh=>by simp at h,by omega,l,FB⟩}
    case rest =>
    clear l FB;obtain⟨b1,q3,rfl,Nj,hq3,l,FB⟩:=hcut;cases b1 with
    |true =>
     have Ln:k2<D.length:=Nj rfl;obtain⟨ZP,LP,Mn⟩:=cZ (R:=D) Ln;have la:=ae LP;have Mc:=(Fd ZP Mn)
     clear LP Mn;have bx:=l.ab.1;have L9:=(l.L (j:=1) la (by omega) rfl).1;by_cases h3:ZP.1.m=3
     ·rw[h3] at L9;have H3:=ae h3;clear h3;go_wp2;go_roundg (D.length - 1 - k2);case measure=>omega
      case rel=>exact⟨k2+1,q3,nm,tx,kd,by omega,by omega,by go_num,My,MF,l,FB⟩
     ·have n3:(ZP.1.m == 3)=ZA:=by simpa using h3
      go_upto_region 12 with fail;clear bx L9;refine aD (λV=>A V (Q X 0 Y)=T (Z (T (Q g 0 Y)) D.length c1)/\A V (Q g (k2*6) Y)=T (U ZP.1.e)/\A V (Q g (k2*6+1) Y)=T (N I ZP.1.m)/\A V (Q g (k2*6+3) Y)=T (U ZP.1.B)) 19 (by kernel_rfl) ?_;have C:=ae (l.aa br.drew);have DQ:Hid (wc.drew.heap[fb]?=T (J #[U nm,N I kd,N I 0,U tx,Z Y 0 0,Z Y 0 0] 46 (0,0))):=FB.out;clear l FB;generalize wc.drew=E at C DQ ⊢;have B:Hid (A E (Q X 0 Y)=T (Z (T (Q g 0 Y)) D.length c1)/\A E (Q g (k2*6) Y)=T (U ZP.1.e)/\A E (Q g (k2*6+1) Y)=T (N I ZP.1.m)/\A E (Q g (k2*6+3) Y)=T (U ZP.1.B)):=⟨C.ab.1,by have h:=(C.L (j:=0) la (by omega) rfl).1;rwa[P6] at h,(C.L (j:=1) la (by omega) rfl).1,(C.L (j:=3) la (by omega) rfl).1⟩
      iterate 19
       refine aJ 0 (v:=?_) rfl rfl (by kernel_rfl) (λ_ _ _ h=>h) rfl ?_ B ?_;rotate_left
       ·(rintro wz ⟨s0,s1,s2,s3⟩;go_simp)
        (try with_reducible rfl)
       (try simp only[Act.put,nzL])
      have L:=DQ.out;have lf:=ag L;have q0:A E (Q fb 0 Y)=T (U nm):=by simp[World.cell?,L]
      have q1:A E (Q fb 1 Y)=T (N I kd):=by simp[World.cell?,L]
      have Nf:A E (Q fb 2 Y)=T (N I 0):=by simp[World.cell?,L]
      have M5:A E (Q fb 3 Y)=T (U tx):=by simp[World.cell?,L]
      have q4:A E (Q fb 4 Y)=T (Z Y 0 0):=by simp[World.cell?,L]
      have q5:A E (Q fb 5 Y)=T (Z Y 0 0):=by simp[World.cell?,L]
      have z0:∀j,E.frozen? (Q fb j Y)=ZA:=λj=>by simp[World.frozen?,L]
      have ZK:=ae (C.aside LQ Mp Mh L (U ZP.1.e) (N I ZP.1.m) (N I 0) (U ZP.1.B) (Z Y 0 0) (Z Y 0 0));have Nr:=ae (LBx.six (W:=E) (b:=fb) L (U ZP.1.e) (N I ZP.1.m) (N I 0) (U ZP.1.B) (Z Y 0 0) (Z Y 0 0));clear L;refine ah (i:=19) rfl (by kernel_rfl) λK ZS=>?_;go_simp;refine ZS _ _ (λh=>absurd rfl h) ?_;clear ZS K B
      (try simp only[Act.put,nzL])
      refine aX (by kernel_rfl) ?_ _;clear q0 q1 Nf M5 q4 q5 z0 C DQ;go_wp2;go_roundg (D.length - 1 - k2);case measure=>omega
      case rel=>exact⟨k2+1,q3,ZP.1.e,ZP.1.B,ZP.1.m,by omega,by omega,by go_num,Mc.nm,Mc.tx,ZK,Nr⟩
    |false =>
     have L:=FB.out;have lf:=ag L;have e0:A wc (Q fb 0 Y)=T (U nm):=by simp[World.cell?,L]
     have e1:A wc (Q fb 1 Y)=T (N I kd):=by simp[World.cell?,L]
     have e2:A wc (Q fb 2 Y)=T (N I 0):=by simp[World.cell?,L]
     have e3:A wc (Q fb 3 Y)=T (U tx):=by simp[World.cell?,L]
     have e4:A wc (Q fb 4 Y)=T (Z Y 0 0):=by simp[World.cell?,L]
     have e5:A wc (Q fb 5 Y)=T (Z Y 0 0):=by simp[World.cell?,L]
     clear L;have bx:=l.ab.1;have lx:=l.lt;have MN:=l.hX;obtain⟨KZ,hj,aq,ph,La⟩:=OB fm;have A4:=ae ((q9 wc).alloc ly (J #[U nm,N I kd,N I 0,U tx,Z Y 0 0,Z Y 0 0] 46));have O4:Hid ((wc.alloc (J #[U nm,N I kd,N I 0,U tx,Z Y 0 0,Z Y 0 0] 46)).ownsRow (w.heap.size+2) 46 6 (Z (T (Q wc.heap.size 0 Y)) 1 1) 1 [U nm,N I kd,N I 0,U tx,Z Y 0 0,Z Y 0 0]):=mI (cs:=#[U nm,N I kd,N I 0,U tx,Z Y 0 0,Z Y 0 0]) (by omega) (by unfold maxLen;omega) rfl;have C:=ae (l.aa A4);have Ni:=C.ab.1;have Nl:=C.ab.2;go_wp2_with (at_builtin;refine BS _ rfl (.tmp 71) (.tmp 73) 35 rfl (w.heap.size+2) 46 KZ (ZH #[U ⟨#[]⟩,N I 0,N I 0,U ⟨#[]⟩,Z Y 0 0,Z Y 0 0]) 6 96 PF hj aq ph La rfl (by decide) (Z (T (Q wc.heap.size 0 Y)) 1 1) 1 [U nm,N I kd,N I 0,U tx,Z Y 0 0,Z Y 0 0] (by simp[Act.eval]) O4.out (Q g 0 Y) D.length c1 (D.flatMap ddV) (by simp[Act.eval]) (eX ddV 6 (λ_=>rfl) D) (λj u hu=>C.row.i.cells (g:=g) rfl j u hu) (rM D mv) (by unfold maxLen;omega) (by omega) (by simp;omega) ?_;intro v5 w5 Fn Ld MC;obtain⟨g5,c5,rfl⟩:=cC Fn (by omega);have B5:=ae (bg A4 Ld (by simp) (λj e=>by simp[Value.ownBlock] at e;omega));have O5:=ae Fn;have ZK:=ae (l.aa B5);obtain⟨MV,Nh⟩:=ZK.ab;have MX:=ZK.lt;clear Fn Ld MC);obtain⟨D3,qr⟩:∃D3,D3=jE nm tx kd::D:=⟨_,rfl⟩
     have LJ:D3.length=1+D.length:=by rw[qr,eL];omega
     have Ll:w5.ownsRow (w.heap.size+2) 46 6 (Z (T (Q g5 0 Y)) D3.length c5) D3.length (D3.flatMap ddV):=by rw[LJ,qr,KK];exact O5
     have ZL:=ae (l.box_ B5 Ll (λr6 h6=>by
      rw[qr] at h6;rcases AT.1 h6 with rfl|h6;{exact vN _ _ _ _ _}
      ·exact ZK.row.sub r6 h6) (λr6 h6=>by
      rw[qr] at h6;rcases AT.1 h6 with rfl|h6;{exact pD kd My (by omega)}
      ·exact ZK.ak r6 h6) (by omega))
     have UP:Hid ((D3.map (·.2.2)).Pairwise Apt):=by rw[qr];exact JO Mq nm tx kd
     have hn3:D3.length<=450+ZJ:=by omega
     rw[<-LJ];generalize World.setCell w5 _ _=v6 at ZL ⊢;clear Ll qr LJ O5 B5 ZK C A4 O4 l FB MV Nh MX Ni Nl bx lx e0 e1 e2 e3 e4 e5;go_loopg [11,12] D3.length (λgh i _ wr=>∃(k3:Nat) (D4:List DR),k3+gh=D3.length/\i=N I k3/\Hid (D4.length=D3.length)/\Hid (D4.map (·.2)=D3.map (·.2))/\Hid (SpS ZJ w R X wr q3 (T (Q g5 0 Y)) c5 D4));case atStart=>exact⟨0,D3,by omega,rfl,rfl,rfl,ZL⟩
     case round =>
      clear ZL;obtain⟨k3,D4,hg3,rfl,At,LU,S7⟩:=hrel;have Na:D4.length<=450+ZJ:=by have:=At.out;omega
      have hwk3:IntKind.i64.wrap ((k3:Int)+1)=(k3:Int)+1:=by rw[p9];have:=At.out;omega
      have Ng:=S7.ab.1;by_cases Ln:(k3:Int)<(D4.length:Int)
      ·obtain⟨r4,MA,Mv⟩:=cZ (R:=D4) (i:=k3) (by omega);have MP:=ae MA;have hln4:=(S7.ak r4 Mv).ln;clear MA Mv;go_wp2_with fail;clear Ng;go_loopg [12] r4.1.b (λgh j wr=>∃(j3:Nat) (D5:List DR) (P:DR),j3+gh=r4.1.b/\j=N I j3/\Hid (D5.length=D4.length)/\Hid (D5.map (·.2)=D4.map (·.2))/\Hid (D5[k3]?=T P)/\Hid (P.1.b=r4.1.b)/\Hid (SpS ZJ w R X wr q3 (T (Q g5 0 Y)) c5 D5));case atStart=>exact⟨0,D4,r4,by omega,rfl,rfl,rfl,MP,rfl,S7⟩
       case round =>
        clear S7;obtain⟨j3,D5,P,hg5,rfl,Lb,Lg,n9,dg,S8⟩:=hrel;have ML:k3<D5.length:=by have:=Lb.out;omega
        have Mj:=LD n9.out;have Ls:=ae Mj;clear Mj;have hln5:P.1.b<=200+ZJ:=by have:=dg.out;omega
        have hwj3:IntKind.i64.wrap ((j3:Int)+1)=(j3:Int)+1:=by rw[p9];have:=dg.out;omega
        obtain⟨al,cl,el⟩:=cJ (S8.row.sub P Ls).V;have EL:=ae el;have Nq:=S8.ab.1;have MW:_=T (Value.slice al P.1.b cl):=(S8.L (j:=5) n9 (by omega) (by rw[<-el];rfl)).1;clear el;by_cases hjl:(j3:Int)<(P.1.b:Int)
        ·have Lc:j3<P.1.b:=by omega
         obtain⟨ZO,MG,e2⟩:=cC (S8.row.sub P Ls).V (by omega);rw[EL.out] at e2;obtain⟨rfl,-,-⟩:=TU e2;clear e2 MG;have OL:Hid (∀V q,SpS ZJ w R X V q (T (Q g5 0 Y)) c5 D5->V.ownsRow (w.heap.size+2) 91 4 (Z (T (Q ZO 0 Y)) P.1.b cl) P.1.b (bq P.1.D P.1.b)):=λV q hV=>by rw[<-EL.out];exact(hV.row.sub P Ls).V
         have ak:=(cX (j:=1) (OL _ _ S8) Lc (by omega) rfl).1;cases hask:(P.1.D j3).ask with
         |false =>
          rw[hask] at ak;clear hask;go_wp2;go_roundg (r4.1.b - 1 - j3);case measure=>have:=dg.out;omega
          case rel=>exact⟨j3+1,D5,P,by have:=dg.out;omega,by go_num,Lb,Lg,n9,dg,S8⟩
         |true =>
          rw[hask] at ak;clear hask;go_upto_region 21 with fail;clear Nq MW ak;refine aD (λV=>A V (Q X 0 Y)=T (Z (T (Q g5 0 Y)) D5.length c5)/\A V (Q g5 (k3*6+5) Y)=T (Z (T (Q ZO 0 Y)) P.1.b cl)/\A V (Q ZO (j3*4+3) Y)=T (N I (P.1.D j3).L)) 20 (by kernel_rfl) ?_;have S9:=ae (S8.aa br.drew);clear S8;generalize wr.drew=v8 at S9 ⊢;have B:Hid (A v8 (Q X 0 Y)=T (Z (T (Q g5 0 Y)) D5.length c5)/\A v8 (Q g5 (k3*6+5) Y)=T (Z (T (Q ZO 0 Y)) P.1.b cl)/\A v8 (Q ZO (j3*4+3) Y)=T (N I (P.1.D j3).L)):=⟨S9.ab.1,(S9.L (j:=5) n9 (by omega) (by rw[<-EL.out];rfl)).1,(cX (j:=3) (OL _ _ S9) Lc (by omega) rfl).1⟩
          iterate 18
           refine aJ 0 (v:=?_) rfl rfl (by kernel_rfl) (λ_ _ _ h=>h) rfl ?_ B ?_;rotate_left
           ·(rintro wz ⟨s0,s1,s2⟩;go_simp)
            (try with_reducible rfl)
           (try simp only[Act.put,nzL])
          generalize IntKind.i64.wrap ((P.1.D j3).L+1)=zz;iterate 2
           refine cD 18 rfl rfl (by kernel_rfl) λK ZS=>?_;go_simp;refine ZS _ _ (λ_=>B) ?_;clear ZS K
           (try simp only[Act.put,nzL])
          have d0:=B.2.2;have d1:=(cX (j:=3) (OL _ _ S9) Lc (by omega) rfl).2;have Nd:=((OL _ _ S9).lt ZO rfl).2;have Ms:(D5.map (·.2.2)).Pairwise Apt:=by
           have e3:D5.map (·.2.2)=D3.map (·.2.2):=by have e4:=wA (List.map Prod.snd) (Lg.trans LU);rw[List.map_map,List.map_map] at e4;exact e4
           rw[e3];exact UP
          have MR:=ae (S9.V Ms n9 EL Lc zz);clear Ms;refine ah (i:=20) rfl (by kernel_rfl) λK ZS=>?_;go_simp;refine ZS _ _ (λh=>absurd rfl h) ?_;clear ZS K B
          (try simp only[Act.put,nzL])
          refine aX (by kernel_rfl) ?_ _;clear d0 d1 Nd S9;go_wp2;go_roundg (r4.1.b - 1 - j3);case measure=>have:=dg.out;omega
          case rel=>exact⟨j3+1,D5.set k3 (atD P.1 j3 zz,P.2),(atD P.1 j3 zz,P.2),by have:=dg.out;omega,by go_num,LB.trans Lb,(FY n9 _).trans Lg,P7 ML,dg,MR⟩
        ·go_wp2;go_roundg (D3.length - 1 - k3);case measure=>have:=At.out;omega
         case rel=>exact⟨k3+1,D5,by have:=At.out;omega,by go_num,Lb.trans At,Lg.trans LU,S8⟩
      {go_wp2;go_meet;exact⟨_,_,_,_,by omega,S7⟩}
  all_goals
   as_aux_lemma =>
    first
     |have e:s=0:=h
      subst e;obtain⟨r0,LV,KV⟩:=cZ (R:=D) (i:=0) (by omega);have H0:=ae LV;have Nk:r0.1.e.size<=5000:=(Fd r0 KV).nm;clear LV KV;go_wp2_with fail;refine aD (λV=>A V (Q X 0 Y)=T (Z (T (Q g 0 Y)) D.length c1)/\A V (Q g 0 Y)=T (U r0.1.e)) 16 (by kernel_rfl) ?_;have l:=ae (F.aa br.drew);clear F;generalize ZR.drew=E at l ⊢;have hD0:0<D.length:=by omega
      have B:Hid (A E (Q X 0 Y)=T (Z (T (Q g 0 Y)) D.length c1)/\A E (Q g 0 Y)=T (U r0.1.e)):=⟨l.ab.1,by have h:=(l.L (k:=0) (j:=0) H0 (by omega) rfl).1;simpa using h⟩
      iterate 8
       refine aJ 0 (v:=?_) rfl rfl (by kernel_rfl) (λ_ _ _ h=>h) rfl ?_ B ?_;rotate_left
       ·(rintro wz ⟨s0,s1⟩;go_simp)
        (try with_reducible rfl)
       (try simp only[Act.put,nzL])
      refine aJ 10 (v:=?_) rfl rfl (by kernel_rfl) (λ_ _ _ h=>h) rfl ?_ B ?_;rotate_left
      ·(rintro wz ⟨s0,s1⟩;go_simp)
       (try with_reducible rfl)
      (try simp only[Act.put,nzL])
      refine ah (i:=8) rfl (by kernel_rfl) λK ZS=>?_;go_simp;go_at_call 74;obtain⟨m1,Lj⟩:∃m1:Nat,(61:Int)=(m1:Int):=⟨61,rfl⟩
      rw[Lj];refine(eQ ⟨#[110]⟩ m1 _ (by show 1*m1<=4000;omega) (by omega)).mono ?_;rintro e v6 ⟨t,rfl,ht,hw⟩;rw[hw];have LI:t.size<=5000:=p7 ht (by show 1*m1<=5000;omega);clear ht hw;refine ZS _ _ (λ_=>B) ?_;clear ZS K
      (try simp only[Act.put,nzL])
      refine uX (i:=9) (j:=11) rfl rfl (by kernel_rfl) (λK ZS=>?_) λK ZS=>?_
      focus
       go_simp;have A4:=(q9 E).alloc ly (J #[U ⟨#[]⟩,U ⟨#[120,32,121]⟩,U r0.1.e,U t] 9);have HL:Hid ((E.alloc (J #[U ⟨#[]⟩,U ⟨#[120,32,121]⟩,U r0.1.e,U t] 9)).heap[E.heap.size]?=T (J #[U ⟨#[]⟩,U ⟨#[120,32,121]⟩,U r0.1.e,U t] 9 (0,0))):=nL E _;have C:=ae (l.aa A4);have Lq:=l.lt;have Lp:=l.hX;have Le:E.heap.size≠R:=by omega
       clear A4 B Lq Lp;generalize World.alloc E _=O at C HL ⊢;generalize E.heap.size=Mr at HL Le ⊢;have B:Hid (A O (Q X 0 Y)=T (Z (T (Q g 0 Y)) D.length c1)/\A O (Q g 0 Y)=T (U r0.1.e)):=⟨C.ab.1,by have h:=(C.L (k:=0) (j:=0) H0 (by omega) rfl).1;simpa using h⟩
       refine ZS _ _ (λ_=>B) ?_;clear ZS K
       (try simp only[Act.put,nzL])
       refine ah (i:=11) rfl (by kernel_rfl) λK ZS=>?_;go_simp;go_at_call 40;refine(au R _ 4 _ C.rd (by omega) (by omega) (by omega)).mono ?_;rintro e v5 ⟨z4,rfl,Id,ME,H,G⟩;obtain⟨m,rfl⟩:=AP Id;have hm:m<4:=by omega
       have ZL:=ae (C.G G H);have HL:=ae ((G.block Mr (ag HL) Le).trans HL);clear G H C B;have B:Hid (A v5 (Q X 0 Y)=T (Z (T (Q g 0 Y)) D.length c1)/\A v5 (Q g 0 Y)=T (U r0.1.e)):=⟨ZL.ab.1,by have h:=(ZL.L (k:=0) (j:=0) H0 (by omega) rfl).1;simpa using h⟩
       refine ZS _ _ (λ_=>B) ?_;clear ZS K
       (try simp only[Act.put,nzL])
      rotate_left
      focus
       go_simp;go_at_call 40;refine(au R _ 4 _ l.rd (by omega) (by omega) (by omega)).mono ?_;rintro e O ⟨z4,rfl,Id,ME,H,G⟩;obtain⟨m,rfl⟩:=AP Id;have hm:m<4:=by omega
       have C:=ae (l.G G H);clear G H l B;have B:Hid (A O (Q X 0 Y)=T (Z (T (Q g 0 Y)) D.length c1)/\A O (Q g 0 Y)=T (U r0.1.e)):=⟨C.ab.1,by have h:=(C.L (k:=0) (j:=0) H0 (by omega) rfl).1;simpa using h⟩
       refine ZS _ _ (λ_=>B) ?_;clear ZS K
       (try simp only[Act.put,nzL])
       refine ah (i:=9) rfl (by kernel_rfl) λK ZS=>?_;go_simp;have A4:=(q9 O).alloc ly (J #[U ⟨#[]⟩,U ⟨#[120,32,121]⟩,U r0.1.e,U t] 9);have HL:Hid ((O.alloc (J #[U ⟨#[]⟩,U ⟨#[120,32,121]⟩,U r0.1.e,U t] 9)).heap[O.heap.size]?=T (J #[U ⟨#[]⟩,U ⟨#[120,32,121]⟩,U r0.1.e,U t] 9 (0,0))):=nL O _;have ZL:=ae (C.aa A4);have Lq:=C.lt;have Lp:=C.hX;have Le:O.heap.size≠R:=by omega
       clear A4 B Lq Lp;generalize World.alloc O _=v5 at ZL HL ⊢;generalize O.heap.size=Mr at HL Le ⊢;have B:Hid (A v5 (Q X 0 Y)=T (Z (T (Q g 0 Y)) D.length c1)/\A v5 (Q g 0 Y)=T (U r0.1.e)):=⟨ZL.ab.1,by have h:=(ZL.L (k:=0) (j:=0) H0 (by omega) rfl).1;simpa using h⟩
       refine ZS _ _ (λ_=>B) ?_;clear ZS K
       (try simp only[Act.put,nzL])
      all_goals
       obtain⟨zz,Np,hzz⟩:=pF HL (by decide) (by decide) Nk LI m hm
       iterate 4
        refine cD 12 rfl rfl (by kernel_rfl) λK ZS=>?_;go_simp;refine ZS _ _ (λ_=>B) ?_;clear ZS K
        (try simp only[Act.put,nzL])
       obtain⟨d0,d1⟩:=ZL.L (j:=0) ZQ (by omega) rfl;rw[P6] at d0 d1;have ZO:=ZL.gb.2.1;have S9:=ae (ZL.fld (j:=0) (u:=U zz) (r':=({ r.1 with e:=zz },r.2)) ZQ (by omega) rfl ((ZL.row.sub r HM).same _ rfl rfl rfl rfl) (ZM.e Np))
     |have e:s=1:=h
      subst e;go_wp2_with fail;refine aD (λV=>A V (Q X 0 Y)=T (Z (T (Q g 0 Y)) D.length c1)) 7 (by kernel_rfl) ?_;have l:=ae (F.aa br.drew);clear F;generalize ZR.drew=E at l ⊢;have B:=ae l.ab.1
      iterate 4
       refine aJ 0 (v:=?_) rfl rfl (by kernel_rfl) (λ_ _ _ h=>h) rfl ?_ B ?_;rotate_left
       ·(intro wz s0;go_simp)
        (try with_reducible rfl)
       (try simp only[Act.put,nzL])
      refine ah (i:=4) rfl (by kernel_rfl) λK ZS=>?_;go_simp;go_at_call 40;refine(au R _ 5 _ l.rd (by omega) (by omega) (by omega)).mono ?_;rintro e O ⟨z4,rfl,Mz,LZ,H,G⟩;have C:=ae (l.G G H);clear G H l B;have B:=ae C.ab.1;refine ZS _ _ (λ_=>B) ?_;clear ZS K
      (try simp only[Act.put,nzL])
      iterate 2
       refine cD 5 rfl rfl (by kernel_rfl) λK ZS=>?_;go_simp;refine ZS _ _ (λ_=>B) ?_;clear ZS K
       (try simp only[Act.put,nzL])
      obtain⟨d0,d1⟩:=C.L (j:=1) ZQ (by omega) rfl;have ZO:=C.gb.2.1;have S9:=ae (C.fld (j:=1) (u:=N I z4) (r':=({ r.1 with m:=z4 },r.2)) ZQ (by omega) rfl ((C.row.sub r HM).same _ rfl rfl rfl rfl) (ZM.m z4))
     |have e:s=2:=h
      subst e;go_wp2_with fail;refine aD (λV=>A V (Q X 0 Y)=T (Z (T (Q g 0 Y)) D.length c1)) 8 (by kernel_rfl) ?_;have l:=ae (F.aa br.drew);clear F;generalize ZR.drew=E at l ⊢;have B:=ae l.ab.1
      iterate 4
       refine aJ 0 (v:=?_) rfl rfl (by kernel_rfl) (λ_ _ _ h=>h) rfl ?_ B ?_;rotate_left
       ·(intro wz s0;go_simp)
        (try with_reducible rfl)
       (try simp only[Act.put,nzL])
      refine ah (i:=4) rfl (by kernel_rfl) λK ZS=>?_;go_simp;go_at_call 40;refine(au R _ 8 _ l.rd (by omega) (by omega) (by omega)).mono ?_;rintro e O ⟨z4,rfl,Mz,LZ,H,G⟩;have C:=ae (l.G G H);clear G H l B;have B:=ae C.ab.1;refine ZS _ _ (λ_=>B) ?_;clear ZS K
      (try simp only[Act.put,nzL])
      have Ma:IntKind.i64.wrap (z4 - 1)=z4 - 1:=by rw[p9];omega
      iterate 3
       refine cD 5 rfl rfl (by kernel_rfl) λK ZS=>?_;go_simp;refine ZS _ _ (λ_=>B) ?_;clear ZS K
       (try simp only[Act.put,nzL])
      obtain⟨d0,d1⟩:=C.L (j:=2) ZQ (by omega) rfl;have ZO:=C.gb.2.1;have S9:=ae (C.fld (j:=2) (u:=N I (z4 - 1)) (r':=({ r.1 with E:=z4 - 1 },r.2)) ZQ (by omega) rfl ((C.row.sub r HM).same _ rfl rfl rfl rfl) (ZM.E _))
     |have e:s=3:=h
      subst e;go_wp2_with fail;refine aD (λV=>A V (Q X 0 Y)=T (Z (T (Q g 0 Y)) D.length c1)/\A V (Q g (k*6+3) Y)=T (U r.1.B)) 12 (by kernel_rfl) ?_;have l:=ae (F.aa br.drew);clear F;generalize ZR.drew=E at l ⊢;have B:Hid (A E (Q X 0 Y)=T (Z (T (Q g 0 Y)) D.length c1)/\A E (Q g (k*6+3) Y)=T (U r.1.B)):=⟨l.ab.1,(l.L (j:=3) ZQ (by omega) rfl).1⟩
      have hsz:¬ 9223372036854775807<r.1.B.size+1:=by omega
      have MD:(r.1.B++⟨#[120]⟩).size<=2000+ZJ:=by have e1:(⟨#[120]⟩:ByteArray).size=1:=rfl;rw[IH,e1];omega
      iterate 9
       refine aJ 0 (v:=?_) rfl rfl (by kernel_rfl) (λ_ _ _ h=>h) rfl ?_ B ?_;rotate_left
       ·(rintro wz ⟨s0,s1⟩;go_simp)
        (try with_reducible rfl)
       (try simp only[Act.put,nzL])
      iterate 3
       refine cD 9 rfl rfl (by kernel_rfl) λK ZS=>?_;go_simp;refine ZS _ _ (λ_=>B) ?_;clear ZS K
       (try simp only[Act.put,nzL])
      obtain⟨d0,d1⟩:=l.L (j:=3) ZQ (by omega) rfl;have ZO:=l.gb.2.1;have S9:=ae (l.fld (j:=3) (u:=U (r.1.B++⟨#[120]⟩)) (r':=({ r.1 with B:=r.1.B++⟨#[120]⟩ },r.2)) ZQ (by omega) rfl ((l.row.sub r HM).same _ rfl rfl rfl rfl) (ZM.B MD))
     |have e:s=4:=h
      subst e;go_wp2_with fail;refine aD (λV=>A V (Q X 0 Y)=T (Z (T (Q g 0 Y)) D.length c1)) 9 (by kernel_rfl) ?_;have l:=ae (F.aa br.drew);clear F;generalize ZR.drew=E at l ⊢;have B:=ae l.ab.1
      iterate 4
       refine aJ 0 (v:=?_) rfl rfl (by kernel_rfl) (λ_ _ _ h=>h) rfl ?_ B ?_;rotate_left
       ·(intro wz s0;go_simp)
        (try with_reducible rfl)
       (try simp only[Act.put,nzL])
      refine ah (i:=4) rfl (by kernel_rfl) λK ZS=>?_;go_simp;go_at_call 40;refine(au R _ 2 _ l.rd (by omega) (by omega) (by omega)).mono ?_;rintro e O ⟨z4,rfl,Mz,LZ,H,G⟩;have C:=ae (l.G G H);clear G H l B;have B:=ae C.ab.1;refine ZS _ _ (λ_=>B) ?_;clear ZS K
      (try simp only[Act.put,nzL])
      have Ma:IntKind.i64.wrap (2000+z4)=2000+z4:=by rw[p9];omega
      refine ah (i:=5) rfl (by kernel_rfl) λK ZS=>?_;go_simp;refine ZS _ _ (λ_=>B) ?_;clear ZS K
      (try simp only[Act.put,nzL])
      obtain⟨m0,KV⟩:∃m0:Nat,2000+z4=(m0:Int):=⟨(2000+z4).toNat,by omega⟩
      rw[KV];refine ah (i:=6) rfl (by kernel_rfl) λK ZS=>?_;go_simp;go_at_call 74;refine(eQ ⟨#[116]⟩ m0 _ (by show 1*m0<=4000;omega) (by omega)).mono ?_;rintro e v6 ⟨t,rfl,ht,hw⟩;rw[hw];have LI:t.size<=2000+ZJ:=p7 ht (by show 1*m0<=2000+ZJ;omega);clear ht hw Ma;refine ZS _ _ (λ_=>B) ?_;clear ZS K
      (try simp only[Act.put,nzL])
      iterate 2
       refine cD 7 rfl rfl (by kernel_rfl) λK ZS=>?_;go_simp;refine ZS _ _ (λ_=>B) ?_;clear ZS K
       (try simp only[Act.put,nzL])
      obtain⟨d0,d1⟩:=C.L (j:=3) ZQ (by omega) rfl;have ZO:=C.gb.2.1;have S9:=ae (C.fld (j:=3) (u:=U t) (r':=({ r.1 with B:=t },r.2)) ZQ (by omega) rfl ((C.row.sub r HM).same _ rfl rfl rfl rfl) (ZM.B LI))
     |have e:s=5:=h
      subst e;obtain⟨⟨ga,ca,ea⟩,-⟩:=mv.out r HM;have EA:=ae ea;clear ea;go_wp2_with fail;refine aD (λV=>A V (Q X 0 Y)=T (Z (T (Q g 0 Y)) D.length c1)/\A V (Q g (k*6+4) Y)=T (Z (T (Q ga 0 Y)) r.1.f ca)) 13 (by kernel_rfl) ?_;have l:=ae (F.aa br.drew);clear F;generalize ZR.drew=E at l ⊢;have B:Hid (A E (Q X 0 Y)=T (Z (T (Q g 0 Y)) D.length c1)/\A E (Q g (k*6+4) Y)=T (Z (T (Q ga 0 Y)) r.1.f ca)):=⟨l.ab.1,(l.L (j:=4) ZQ (by omega) (by rw[<-EA.out];rfl)).1⟩
      iterate 10
       refine aJ 0 (v:=?_) rfl rfl (by kernel_rfl) (λ_ _ _ h=>h) rfl ?_ B ?_;rotate_left
       ·(rintro wz ⟨s0,s1⟩;go_simp)
        (try with_reducible rfl)
       (try simp only[Act.put,nzL])
      refine ah (i:=10) rfl (by kernel_rfl) λK ZS=>?_;go_simp;go_at_call 96;refine(Ds (l.row.sub r HM) EA l.rd (by omega) Lh (by omega)).mono ?_;rintro e O ⟨L4,g4,c4,rfl,Mb,-,Na,Mi,q4,hq4,H,G⟩;have C:=ae (l.G G H);have Mt:=l.lt;have I4:Hid (O.ownsRow (w.heap.size+2) 151 3 (Z (T (Q g4 0 Y)) L4.length c4) L4.length (bJ (dq L4) L4.length)):=by show World.ownsRow _ _ _ _ _ _ _;rw[<-vA];exact aB Mb (by omega)
      have T4:=ae Mi;clear G H l B Mb Mi Mt;have B:Hid (A O (Q X 0 Y)=T (Z (T (Q g 0 Y)) D.length c1)/\A O (Q g (k*6+4) Y)=T (Z (T (Q ga 0 Y)) r.1.f ca)):=⟨C.ab.1,(C.L (j:=4) ZQ (by omega) (by rw[<-EA.out];rfl)).1⟩
      refine ZS _ _ (λ_=>B) ?_;clear ZS K
      (try simp only[Act.put,nzL])
      iterate 2
       refine cD 11 rfl rfl (by kernel_rfl) λK ZS=>?_;go_simp;refine ZS _ _ (λ_=>B) ?_;clear ZS K
       (try simp only[Act.put,nzL])
      have d0:=B.2;have d1:=(C.L (j:=4) ZQ (by omega) rfl).2;have ZO:=C.gb.2.1;have S9:=ae (C.fld (j:=4) (u:=Z (T (Q g4 0 Y)) L4.length c4) (r':=({ r.1 with f:=L4.length,H:=dq L4 },Z (T (Q g4 0 Y)) L4.length c4,r.2.2)) ZQ (by omega) rfl ⟨I4,(C.row.sub r HM).V⟩ ⟨ZM.nm,ZM.tx,by show L4.length<=200+ZJ;omega,mE T4,ZM.ln,ZM.lsz⟩)
    all_goals
     refine cD 0 rfl rfl (by kernel_rfl) λK ZS=>?_;go_simp;refine ZS _ _ (λh=>absurd rfl h) ?_;clear ZS K B
     (try simp only[Act.put,nzL])
     refine aX (by kernel_rfl) ?_ _;clear d0 d1 ZO;go_wp2;go_meet;exact⟨_,_,_,_,by omega,S9⟩
 case rest =>
 clear F;obtain⟨a',c',q',D',MY,S9⟩:=hcut;have bx:=S9.ab.1;have rs:=S9.rs;have r0:A wc (Q (w.heap.size+1) 0 Y)=T (Z Y 0 0):=by simp[World.cell?,rs]
 have f0:wc.frozen? (Q (w.heap.size+1) 0 Y)=ZA:=by simp[World.frozen?,rs]
 have l0:=ag rs;have FN:=ae (S9.fin (by omega) MY);clear rs;go_wp2;exact bp (v:=ZH #[Z a' D'.length c']) (by simp[results,results66,go_sem,r0]) rfl FN.out
