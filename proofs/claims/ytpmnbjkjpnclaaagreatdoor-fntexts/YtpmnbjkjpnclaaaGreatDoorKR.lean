import Derived.Test.YtpmnbjkjpnclaaaGreatDoorKM
import Derived.Test.YtpmnbjkjpnclaaaGreatDoorMA
import Derived.Test.YtpmnbjkjpnclaaaGreatDoorLZ
set_option maxRecDepth 100000
set_option maxHeartbeats 40000000
open Go renaming Addr.mk->N,Value.slice->Y,Value.string->U,Value.int->Q,Value.bool->ZC,Value.agg->ZG,Obj.cells->J,IntKind.i64->I,World->M,TypeId->ZH,World.heap->B,World.cell?->A
open Option renaming none->Z,some->T
open Bool renaming false->ZA,true->ZF
open Array renaming size->z
namespace Go.Proofs.YtpmnbjkjpnclaaaGreatDoor.Vp
open Tryz RowKit Ca
variable {w W:M}{n b m g R:Nat}{t:ZH}
theorem Ee:∃i:TypeInfo,Tryz.prog.info? 91=T i/\i.zero=T (ZG #[U ⟨#[]⟩,ZC ZA,ZC ZA,Q I 0])/\i.size=4/\i.bytes=32:=JT mF
theorem ku{base size:Nat}{e:ZH}{cs:Array Value}(hb:base<=z (B w))(f:n<=maxLen)(b:cs.size=n*size):(w.alloc (J cs e)).ownsRow base e size (Y (T (N (z (B w)) 0 Z)) n n) n cs.toList :=
 ⟨by simpa using b,.inr ⟨z (B w),n,cs,rfl,hb,gM w _,nX _,f,b,by rw[KI];simp[b]⟩⟩
theorem zc (f:Nat->Link)(h:m<=n):(bQ f n).take (m*4)=bQ f m:=by
 refine NY λj=>?_;rw[NI];have hn:=gK f n;have hm:=gK f m;by_cases b:j<m*4
 ·have e:j=j / 4*4+j % 4:=by omega
  rw[nL b,e,iL f (by omega) _ (N9 _ (by omega)),iL f (by omega) _ (N9 _ (by omega))]
 {rw[eT b,JR (by omega)]}
theorem Bw{c:Nat}{f:Nat->Link}(h:w.ownsRow b 91 4 (Y (T (N g 0 Z)) n c) n (bQ f n))(o:m<=n):w.ownsRow b 91 4 (Y (T (N g 0 Z)) m c) m (bQ f m):=by
 refine⟨gK f m,?_⟩;rcases h.2 with ⟨i,_⟩|⟨g',cap,j,i,hb,q,hc,r,p,l⟩
 {cases i}
 ·cases i
  refine .inr ⟨g,c,j,rfl,hb,q,by omega,r,p,?_⟩;rw[<-zc f o,<-l,List.take_take,MB (by omega)]
theorem tA (f:Nat->Link)(n:Nat)(y:Link):bQ f n++dv y=bQ (λi=>if i=n then y else f i) (n+1):=by
 unfold bQ;rw[KV,JS,JA];congr 1;{congr 1;refine List.map_congr_left λi hi=>?_;have:=J4.1 hi;rw[eT (by omega)]};{simp}
theorem Bz{l g f i:Int}{fz:Nat × Nat}(h:w.heap[b]?=T (J #[Q I l,Q I g,Q I f,Q I i] t fz))(k:Nat)(m:k<4):∃ZR,A w (N b k Z)=T (Q I ZR):=by
 match k,m with
 |0,_=>exact⟨l,by simp[World.cell?,h]⟩
 |1,_=>exact⟨g,by simp[World.cell?,h]⟩
 |2,_=>exact⟨f,by simp[World.cell?,h]⟩
 |3,_=>exact⟨i,by simp[World.cell?,h]⟩
 |j+4,h5=>exact absurd h5 (by omega)
def lN (W:M)(b:Nat):Nat:=match A W (N b 5 Z) with
 |some (Y _ n _)=>n
 |_=>0
theorem LBx.len{c:Nat}{i g l f j:Value}{a:Option Addr}(h:LBx W b i g l f j (Y a n c)):lN W b=n:=by unfold lN;rw[h.cells.2.2.2.2.2]
theorem oN (ZM:Nat)(hNN:200<=ZM/\ZM<=299)(w0:M)(R p x g c n:Nat)(f:Nat->Link)(nm tx:ByteArray)(ZO ZP:Int)(G:Option Addr)(L c4:Nat)(w:M)(hO:Only R w0 w)(hR:R<z (B w0))(hb:z (B w0)<=x)(hbw:x<=z (B w))(hr:Rd w R p)(hp:p<=50000)(DE:w.ownsRow x 91 4 (Y (T (N g 0 Z)) n c) n (bQ f n))(hn:n<=ZM)(DS:∀j,j<n->(f j).e.size<=5000):Calls Tryz.prog 122 #[.pointer (T (N R 0 Z)),ZG #[U nm,Q I ZO,Q I ZP,U tx,Y G L c4,Y (T (N g 0 Z)) n c]] w λe w'=>DL ZM w0 w R x g (U nm) (Q I ZO) (Q I ZP) (U tx) (Y G L c4) (p+10) e w':=by
 have ZJ:=ae (Ea (v0:=U nm) (v1:=Q I ZO) (v2:=Q I ZP) (v3:=U tx) (v4:=Y G L c4) hO hR hb hbw hr DE DS);obtain⟨CD,hi,Fm,FK,Bk⟩:=Ee;clear hO hR hb hbw hr DE DS;obtain⟨-,-,-,-,-,W⟩:=ZJ.bx.cells;have S:=ZJ.bx.lt;by_cases hz:n=0
 ·subst hz;go_enter func122,ntmps122;go_wp2_with fail;generalize World.alloc (World.alloc w _) _=W0 at ZJ W S ⊢;clear W S;refine(dA R _ _ ZJ.rd (by omega)).mono ?_;rintro e w1 ⟨ln,rfl,FQ,ex,fd⟩;have L1:=ae (ZJ.ac fd ex);clear fd ex ZJ;go_wp2_with fail;refine(aw R _ 2 _ L1.rd (by omega) (by omega) (by omega)).mono ?_;rintro e ZL ⟨ZR,rfl,qr,At,aq,bt⟩;have ZT:=ae (L1.ac bt aq);clear bt aq L1;obtain⟨bh,FU⟩:∃b:Bool,(ZR=0/\b=ZF)∨(ZR=1/\b=ZA):=by rcases(show ZR=0∨ZR=1 by omega) with h|h<;>simp[h]
  have A3:=(BS ZL).alloc ly (J #[U ln,ZC ZA,ZC bh,Q I 0] 91);have h2:=ZT.lt;have h3:=ZT.hbw;have O3:(ZL.alloc (J #[U ln,ZC ZA,ZC bh,Q I 0] 91)).ownsRow x 91 4 (Y (T (N (z (B ZL)) 0 Z)) 1 1) 1 (bQ (λ_=>⟨ln,ZA,bh,0⟩) 1):=ku (cs:=#[U ln,ZC ZA,ZC bh,Q I 0]) (by omega) (by unfold maxLen;omega) rfl;have o:=ae ((ZT.aa A3).setB (oL _ _) O3 (.inr (by omega)) (λj _=>by show ln.size<=5000;omega));obtain⟨-,-,-,-,-,W⟩:=ZT.bx.cells;have bz:=ZT.bx.fz 5;have S:=ZT.bx.lt;rw[World.setCell_alloc_past _ _ _ _ S] at o;clear A3 O3;rcases FU with ⟨rfl,rfl⟩|⟨rfl,rfl⟩
  all_goals
   go_upto_region 3 with fail;generalize World.alloc (World.setCell ZL _ _) _=W3 at o ⊢;clear W bz S;obtain⟨b0,b1,b2,b3,b4,W⟩:=o.bx.cells;obtain⟨r0,r1,r2,r3,r4,r5⟩:=o.rs.cells;obtain⟨z0,z1,z2,z3,z4,z5⟩:=al6 o.rs.fz;have S:=o.bx.lt;have lr:=o.rs.lt;have FN:=ae (o.fin (ZM:=ZM) (ZN:=p+10) (by omega) (by omega) (U nm) (Q I ZO) (Q I ZP) (U tx) (Y G L c4) (Y (T (N (z (B ZL)) 0 Z)) 1 1));have FB:=ae (o.rs.six (U nm) (Q I ZO) (Q I ZP) (U tx) (Y G L c4) (Y (T (N (z (B ZL)) 0 Z)) 1 1));go_wp2;generalize World.setCell (World.setCell (World.setCell (World.setCell (World.setCell (World.setCell W3 _ _) _ _) _ _) _ _) _ _) _ _=V at FN FB ⊢;obtain⟨x0,x1,x2,x3,x4,x5⟩:=FB.cells;exact bp (v:=ZG #[U nm,Q I ZO,Q I ZP,U tx,Y G L c4,Y (T (N (z (B ZL)) 0 Z)) 1 1]) (by simp[results,results122,go_sem,x0,x1,x2,x3,x4,x5]) rfl FN.out
 have nz:¬ ((n:Int)=0):=by omega
 go_enter func122,ntmps122;go_wp2_with fail;generalize World.alloc (World.alloc w _) _=W0 at ZJ W S ⊢;refine(aw R _ (n:Int) _ ZJ.rd (by omega) (by omega) (by omega)).mono ?_;rintro e w1 ⟨ZR,rfl,qr,At,ex,fd⟩;obtain⟨k,rfl⟩:=AT qr;have C:k<n:=by omega
 have L1:=ae (ZJ.ac fd ex);clear fd ex ZJ W S qr At;go_wp2_with fail;refine(aw R _ 7 _ L1.rd (by omega) (by omega) (by omega)).mono ?_;rintro e ZL ⟨s,rfl,hs0,hs1,aq,bt⟩;have ZT:=ae (L1.ac bt aq);clear bt aq L1;have hn1:=ZT.nm k C;have SB:Hid (∀V:M,LBx V (z (B w)) (U nm) (Q I ZO) (Q I ZP) (U tx) (Y G L c4) (Y (T (N g 0 Z)) n c)->A V (N (z (B w)) 5 Z)=T (Y (T (N g 0 Z)) n c)):=λV h=>h.cells.2.2.2.2.2;go_upto_block 0 with fail;go_cut [] (λwx=>∃(q' X H ZI:Nat) (f':Nat->Link),q'<=p+10/\H<=ZM+1/\Hid (LStD w0 w R x g (U nm) (Q I ZO) (Q I ZP) (U tx) (Y G L c4) wx q' X H ZI f'));case rest =>clear ZT SB hn1;obtain⟨q',X,H,ZI,f',hq',FV,l⟩:=hcut;go_upto_region 21 with fail;obtain⟨b0,b1,b2,b3,b4,W⟩:=l.bx.cells;obtain⟨r0,r1,r2,r3,r4,r5⟩:=l.rs.cells;obtain⟨z0,z1,z2,z3,z4,z5⟩:=al6 l.rs.fz;have S:=l.bx.lt;have lr:=l.rs.lt;have FN:=ae (l.fin (ZM:=ZM) (ZN:=p+10) (by omega) (by omega) (U nm) (Q I ZO) (Q I ZP) (U tx) (Y G L c4) (Y (T (N X 0 Z)) H ZI));have FB:=ae (l.rs.six (U nm) (Q I ZO) (Q I ZP) (U tx) (Y G L c4) (Y (T (N X 0 Z)) H ZI));go_wp2;generalize World.setCell (World.setCell (World.setCell (World.setCell (World.setCell (World.setCell wc _ _) _ _) _ _) _ _) _ _) _ _=V at FN FB ⊢;obtain⟨x0,x1,x2,x3,x4,x5⟩:=FB.cells;exact bp (v:=ZG #[U nm,Q I ZO,Q I ZP,U tx,Y G L c4,Y (T (N X 0 Z)) H ZI]) (by simp[results,results122,go_sem,x0,x1,x2,x3,x4,x5]) rfl FN.out
 rcases(show(s=0∨s=1∨s=2∨s=3)∨s=4∨s=5∨s=6 by omega) with (rfl|rfl|rfl|rfl)|rfl|rfl|rfl;rotate_left 4
 ·obtain⟨m,rfl⟩:∃m,n=m+1:=⟨n - 1,by omega⟩
  have hcap:=iS ZT.x;obtain⟨-,-,-,-,-,W⟩:=ZT.bx.cells;have bz:=ZT.bx.fz 5;have S:=ZT.bx.lt;have o:=ae (ZT.setB (oL _ _) (Bw ZT.x (JH m)) (.inl rfl) (λj hj=>ZT.nm j (by omega)));have hw:IntKind.i64.wrap (((m+1:Nat):Int) - 1)=(m:Int):=by rw[AI];omega
  go_wp2;go_meet;exact⟨_,_,_,_,_,by omega,by omega,o⟩
 ·go_wp2_with fail;refine aD (λV=>A V (N (z (B w)) 5 Z)=T (Y (T (N g 0 Z)) n c)) 10 (by kernel_rfl) ?_;have o:=ae (ZT.aa br.drew);clear ZT;generalize ZL.drew=t at o ⊢;have r:=ae (SB t o.bx);iterate 6
   refine aH 0 (v:=?_) rfl rfl (by kernel_rfl) (λ_ _ _ h=>h) rfl ?_ r ?_;rotate_left
   ·(intro wz s0;go_simp)
    (try with_reducible rfl)
   (try simp only[Act.put,nzL])
  have e0:=(cC (j:=0) o.x C (by omega) rfl).1;have e1:=(cC (j:=1) o.x C (by omega) rfl).1;have e2:=(cC (j:=2) o.x C (by omega) rfl).1;have e3:=(cC (j:=3) o.x C (by omega) rfl).1;rw[KL] at e0;refine ai (i:=6) rfl (by kernel_rfl) λK q=>?_;go_simp;refine q _ _ (λ_=>r) ?_;clear q K
  (try simp only[Act.put,nzL])
  clear e0 e1 e2 e3;refine ai (i:=7) rfl (by kernel_rfl) λK q=>?_;go_simp;have A4:=(BS t).alloc ly (J #[U (f k).e,ZC (f k).ask,ZC (f k).has,Q I (f k).G] 91);have l:=ae (o.aa A4);have HN:Hid (∀j u,(dv (f k))[j]?=T u->(t.alloc (J #[U (f k).e,ZC (f k).ask,ZC (f k).has,Q I (f k).G] 91)).cell? (((N (z (B t)) 0 Z):Addr).add j)=T u):=(ku (base:=0) (e:=91) (size:=4) (n:=1) (cs:=#[U (f k).e,ZC (f k).ask,ZC (f k).has,Q I (f k).G]) (IH _) (by unfold maxLen;omega) rfl).cells rfl;have hl3:=o.lt;have hl3':=o.hbw;have hz3:(t.alloc (J #[U (f k).e,ZC (f k).ask,ZC (f k).has,Q I (f k).G] 91)).heap.size=z (B t)+1:=by simp
  clear A4 r;have r:=ae (SB _ l.bx);refine q _ _ (λ_=>r) ?_;clear q K
  (try simp only[Act.put,nzL])
  refine ai (i:=8) rfl (by kernel_rfl) (λK q=>?_);refine step_append_lies _ rfl (.tmp 110) (.tmp 116) 44 rfl x 91 CD (ZG #[U ⟨#[]⟩,ZC ZA,ZC ZA,Q I 0]) 4 32 QG hi Fm FK Bk rfl (by decide) (Y (T (N g 0 Z)) n c) n (bQ f n) (by simp[Act.eval]) l.x (N (z (B t)) 0 Z) 1 1 (dv (f k)) (by simp[Act.eval]) rfl HN.out (by simp[dv,Value.oneCell']) (by omega) (by unfold maxLen;omega) (by omega) (by omega) _ rfl ?_;intro g5 c5 P ZQ D ld Fk;rw[tA f n (f k)] at ZQ;have G5:=ae D;have O5:=ae ZQ;have ro:g5=g∨(z (B w))<=g5:=by
   rcases ld with h|h;{exact .inl (by simpa[Value.ownBlock] using h.symm)};{exact .inr (by omega)}
  have BX:Hid (LBx P (z (B w)) (U nm) (Q I ZO) (Q I ZP) (U tx) (Y G L c4) (Y (T (N g 0 Z)) n c)):=l.bx.ad (D.block _ l.bx.lt (λe=>l.gne.1 (by simpa[Value.ownBlock] using e.symm)));clear ZQ D ld Fk HN r;have r:=ae (SB P BX);refine q _ _ (λ_=>r) ?_;clear q K
  (try simp only[Act.put,nzL])
  refine ai (i:=9) rfl (by kernel_rfl) λK q=>?_;go_simp;refine q _ _ (λ_=>r) ?_;clear q K
  (try simp only[Act.put,nzL])
  have L6:=ae (l.setB G5 O5 ro (λj hj=>by show(if j=n then f k else f j).e.size<=5000;split;exact hn1;exact l.nm j (by omega)));obtain⟨-,-,-,-,-,W⟩:=BX.cells;have bz:=BX.fz 5;have S:=BX.lt;refine ai (i:=10) rfl (by kernel_rfl) λK q=>?_;go_simp;refine q _ _ (λh=>absurd rfl h) ?_;clear q K r
  (try simp only[Act.put,nzL])
  refine aT (by kernel_rfl) ?_ _;clear W bz S BX G5 O5 l;go_wp2;go_meet;exact⟨_,_,_,_,_,by omega,by omega,L6⟩
 ·go_wp2_with fail;refine(aw R _ 2 _ ZT.rd (by omega) (by omega) (by omega)).mono ?_;rintro e w3 ⟨ZR,rfl,qr,At,Fd,DQ⟩;have o:=ae (ZT.ac DQ Fd);clear DQ Fd ZT hn1 SB C;have hw:IntKind.i64.wrap (200+ZR)=200+ZR:=by rw[AI];omega
  go_wp2_with fail;go_loopw [] (λwr=>∃(X H ZI:Nat) (f':Nat->Link),H<=ZM+1/\Hid (LStD w0 w R x g (U nm) (Q I ZO) (Q I ZP) (U tx) (Y G L c4) wr (p+1+1+1) X H ZI f')) (λwr=>300 - lN wr (z (B w)));case atStart=>exact⟨g,n,c,f,by omega,o⟩
  case round =>
   obtain⟨X,H,ZI,f',FV,l⟩:=hrel;obtain⟨-,-,-,-,-,W⟩:=l.bx.cells;have S:=l.bx.lt;have n9:=l.lt;have sm:=l.hbw;clear o;by_cases Fk:(H:Int)<200+ZR
   ·have ZS:=ae (l.aa ((BS wr).alloc ly (J #[U ⟨#[97]⟩,ZC ZA,ZC ZF,Q I 0] 91)));have HN:Hid (∀j u,(dv ⟨⟨#[97]⟩,ZA,ZF,0⟩)[j]?=T u->(wr.alloc (J #[U ⟨#[97]⟩,ZC ZA,ZC ZF,Q I 0] 91)).cell? (((N (z (B wr)) 0 Z):Addr).add j)=T u):=(ku (base:=0) (e:=91) (size:=4) (n:=1) (cs:=#[U ⟨#[97]⟩,ZC ZA,ZC ZF,Q I 0]) (IH _) (by unfold maxLen;omega) rfl).cells rfl;have hz5:(wr.alloc (J #[U ⟨#[97]⟩,ZC ZA,ZC ZF,Q I 0] 91)).heap.size=z (B wr)+1:=by simp
    go_wp2_with (at_builtin;refine wpList_append_lies _ rfl (.tmp 36) (.tmp 38) 44 rfl x 91 CD (ZG #[U ⟨#[]⟩,ZC ZA,ZC ZA,Q I 0]) 4 32 QG hi Fm FK Bk rfl (by decide) (Y (T (N X 0 Z)) H ZI) H (bQ f' H) (by simp[Act.eval]) ZS.x (N (z (B wr)) 0 Z) 1 1 (dv ⟨⟨#[97]⟩,ZA,ZF,0⟩) (by simp[Act.eval]) rfl HN.out (by simp[dv,Value.oneCell']) (by omega) (by unfold maxLen;omega) (by omega) (by omega) _ rfl ?_;intro g5 c5 P ZQ D ld FP;have BX:Hid (LBx P (z (B w)) (U nm) (Q I ZO) (Q I ZP) (U tx) (Y G L c4) (Y (T (N X 0 Z)) H ZI)):=ZS.bx.ad (D.block _ ZS.bx.lt (λe=>ZS.gne.1 (by simpa[Value.ownBlock] using e.symm)));rw[tA f' H] at ZQ;have ro:g5=X∨(z (B w))<=g5:=(by rcases ld with h|h;exact .inl (by simpa[Value.ownBlock] using h.symm);exact .inr (by omega));have L6:=ae (ZS.setB D ZQ ro (λj hj=>(by show(if j=H then (⟨⟨#[97]⟩,ZA,ZF,0⟩:Link) else f' j).e.size<=5000;split;exact(by decide);exact ZS.nm j (by omega))));obtain⟨-,-,-,-,-,q5⟩:=BX.cells;have qz:=BX.fz 5;have ql:=BX.lt;clear ZQ D ld FP ro);refine⟨⟨g5,H+1,c5,_,by omega,L6⟩,?_⟩;have e1:=l.bx.len;have e2:=L6.bx.len;show 300 - lN _ _<300 - lN _ _;rw[e1,e2];omega
   {skip;go_wp2;go_meet;exact⟨_,_,_,_,_,by omega,by omega,l⟩}
 focus
  go_wp2_with fail;refine aD (λV=>A V (N (z (B w)) 5 Z)=T (Y (T (N g 0 Z)) n c)) 7 (by kernel_rfl) ?_;have o:=ae (ZT.aa br.drew);clear ZT;generalize ZL.drew=t at o ⊢;have r:=ae (SB t o.bx)
  iterate 4
   refine aH 0 (v:=?_) rfl rfl (by kernel_rfl) (λ_ _ _ h=>h) rfl ?_ r ?_;rotate_left
   ·(intro wz s0;go_simp)
    (try with_reducible rfl)
   (try simp only[Act.put,nzL])
  refine ai (i:=4) rfl (by kernel_rfl) λK q=>?_;go_simp;go_at_call 87;refine(dA R _ _ o.rd (by omega)).mono ?_;rintro e E ⟨ln,rfl,FQ,ZK,O⟩;have l:=ae (o.ac O ZK);clear O ZK o r;have r:=ae (SB E l.bx);refine q _ _ (λ_=>r) ?_;clear q K
  (try simp only[Act.put,nzL])
  iterate 2
   refine bH 5 rfl rfl (by kernel_rfl) λK q=>?_;go_simp;refine q _ _ (λ_=>r) ?_;clear q K
   (try simp only[Act.put,nzL])
  obtain⟨d0,d1⟩:=cC (j:=0) l.x C (by omega) rfl;rw[KL] at d0 d1;have gl:=l.gne.2.2.2;have ZS:Hid (LStD w0 w R x g (U nm) (Q I ZO) (Q I ZP) (U tx) (Y G L c4) (E.setCell (N g (k*4) Z) (U ln)) _ g n c _):=l.setL (j:=0) (y:={ f k with e:=ln }) (u:=U ln) C (by omega) rfl (by show ln.size<=5000;omega)
 rotate_left;have M1:=True.intro;iterate 2
  focus
   go_wp2_with fail;first|(guard_hyp M1;refine aD (λV=>A V (N (z (B w)) 5 Z)=T (Y (T (N g 0 Z)) n c)/\A V (N g (k*4+1) Z)=T (ZC (f k).ask)) 12 (by kernel_rfl) ?_)|refine aD (λV=>A V (N (z (B w)) 5 Z)=T (Y (T (N g 0 Z)) n c)/\A V (N g (k*4+2) Z)=T (ZC (f k).has)) 12 (by kernel_rfl) ?_
   have l:=ae (ZT.aa br.drew);clear ZT;generalize ZL.drew=t at l ⊢;first|(guard_hyp M1;obtain⟨d0,d1⟩:=cC (j:=1) l.x C (by omega) rfl)|obtain⟨d0,d1⟩:=cC (j:=2) l.x C (by omega) rfl
   first|(guard_hyp M1;have r:Hid (A t (N (z (B w)) 5 Z)=T (Y (T (N g 0 Z)) n c)/\A t (N g (k*4+1) Z)=T (ZC (f k).ask)):=⟨SB t l.bx,d0⟩)|have r:Hid (A t (N (z (B w)) 5 Z)=T (Y (T (N g 0 Z)) n c)/\A t (N g (k*4+2) Z)=T (ZC (f k).has)):=⟨SB t l.bx,d0⟩
   clear d0
   iterate 10
    refine aH 0 (v:=?_) rfl rfl (by kernel_rfl) (λ_ _ _ h=>h) rfl ?_ r ?_;rotate_left
    ·(rintro wz ⟨s0,s1⟩;go_simp)
     (try with_reducible rfl)
    (try simp only[Act.put,nzL])
   iterate 2
    refine bH 10 rfl rfl (by kernel_rfl) λK q=>?_;go_simp;refine q _ _ (λ_=>r) ?_;clear q K
    (try simp only[Act.put,nzL])
   have d0:=r.2;have gl:=l.gne.2.2.2;first|(guard_hyp M1;have ZS:Hid (LStD w0 w R x g (U nm) (Q I ZO) (Q I ZP) (U tx) (Y G L c4) (t.setCell (N g (k*4+1) Z) (ZC (!(f k).ask))) _ g n c _):=l.setL (j:=1) (y:={ f k with ask:=!(f k).ask }) (u:=ZC (!(f k).ask)) C (by omega) rfl hn1)|have ZS:Hid (LStD w0 w R x g (U nm) (Q I ZO) (Q I ZP) (U tx) (Y G L c4) (t.setCell (N g (k*4+2) Z) (ZC (!(f k).has))) _ g n c _):=l.setL (j:=2) (y:={ f k with has:=!(f k).has }) (u:=ZC (!(f k).has)) C (by omega) rfl hn1
  rotate_left
 focus
  go_wp2_with fail;refine aD (λV=>A V (N (z (B w)) 5 Z)=T (Y (T (N g 0 Z)) n c)/\A V (N g (k*4+3) Z)=T (Q I (f k).G)) 17 (by kernel_rfl) ?_;have o:=ae (ZT.aa br.drew);clear ZT;generalize ZL.drew=t at o ⊢;have r:Hid (A t (N (z (B w)) 5 Z)=T (Y (T (N g 0 Z)) n c)/\A t (N g (k*4+3) Z)=T (Q I (f k).G)):=⟨SB t o.bx,(cC (j:=3) o.x C (by omega) rfl).1⟩
  iterate 10
   refine aH 0 (v:=?_) rfl rfl (by kernel_rfl) (λ_ _ _ h=>h) rfl ?_ r ?_;rotate_left
   ·(rintro wz ⟨s0,s1⟩;go_simp)
    (try with_reducible rfl)
   (try simp only[Act.put,nzL])
  refine aH 11 (v:=?_) rfl rfl (by kernel_rfl) (λ_ _ _ h=>h) rfl ?_ r ?_;rotate_left
  ·(rintro wz ⟨s0,s1⟩;go_simp)
   (try with_reducible rfl)
  (try simp only[Act.put,nzL])
  generalize IntKind.i64.wrap ((f k).G+1)=ax;refine mE (i:=10) (j:=12) rfl rfl (by kernel_rfl) (λK q=>?_) λK q=>?_
  focus
   go_simp;have A4:=(BS t).alloc ly (J #[Q I (-1),Q I 0,Q I ax,Q I 400] 3);have HL:Hid ((t.alloc (J #[Q I (-1),Q I 0,Q I ax,Q I 400] 3)).heap[z (B t)]?=T (J #[Q I (-1),Q I 0,Q I ax,Q I 400] 3 (0,0))):=gM t _;have l:=ae (o.aa A4);have n9:=o.lt;have sm:=o.hbw;have th:=o.hR;have ur:=o.hb;have ph:z (B t)≠R:=by omega
   clear A4 r n9 sm th ur;generalize World.alloc t _=E at l HL ⊢;generalize (z (B t))=FM at HL ph ⊢;have r:Hid (A E (N (z (B w)) 5 Z)=T (Y (T (N g 0 Z)) n c)/\A E (N g (k*4+3) Z)=T (Q I (f k).G)):=⟨SB E l.bx,(cC (j:=3) l.x C (by omega) rfl).1⟩
   refine q _ _ (λ_=>r) ?_;clear q K
   (try simp only[Act.put,nzL])
   refine ai (i:=12) rfl (by kernel_rfl) λK q=>?_;go_simp;go_at_call 40;refine(aw R _ 4 _ l.rd (by omega) (by omega) (by omega)).mono ?_;rintro e P ⟨z4,rfl,n8,FO,ZK,O⟩;obtain⟨m,rfl⟩:=AT n8;have hm:m<4:=by omega
   have ZS:=ae (l.ac O ZK);have HL:=ae ((O.block FM (ar HL) ph).trans HL);clear O ZK l r;have r:Hid (A P (N (z (B w)) 5 Z)=T (Y (T (N g 0 Z)) n c)/\A P (N g (k*4+3) Z)=T (Q I (f k).G)):=⟨SB P ZS.bx,(cC (j:=3) ZS.x C (by omega) rfl).1⟩
   refine q _ _ (λ_=>r) ?_;clear q K
   (try simp only[Act.put,nzL])
  rotate_left
  focus
   go_simp;go_at_call 40;refine(aw R _ 4 _ o.rd (by omega) (by omega) (by omega)).mono ?_;rintro e E ⟨z4,rfl,n8,FO,ZK,O⟩;obtain⟨m,rfl⟩:=AT n8;have hm:m<4:=by omega
   have l:=ae (o.ac O ZK);clear O ZK o r;have r:Hid (A E (N (z (B w)) 5 Z)=T (Y (T (N g 0 Z)) n c)/\A E (N g (k*4+3) Z)=T (Q I (f k).G)):=⟨SB E l.bx,(cC (j:=3) l.x C (by omega) rfl).1⟩
   refine q _ _ (λ_=>r) ?_;clear q K
   (try simp only[Act.put,nzL])
   refine ai (i:=10) rfl (by kernel_rfl) λK q=>?_;go_simp;have A4:=(BS E).alloc ly (J #[Q I (-1),Q I 0,Q I ax,Q I 400] 3);have HL:Hid ((E.alloc (J #[Q I (-1),Q I 0,Q I ax,Q I 400] 3)).heap[z (B E)]?=T (J #[Q I (-1),Q I 0,Q I ax,Q I 400] 3 (0,0))):=gM E _;have ZS:=ae (l.aa A4);have n9:=l.lt;have sm:=l.hbw;have th:=l.hR;have ur:=l.hb;have ph:z (B E)≠R:=by omega
   clear A4 r n9 sm th ur;generalize World.alloc E _=P at ZS HL ⊢;generalize (z (B E))=FM at HL ph ⊢;have r:Hid (A P (N (z (B w)) 5 Z)=T (Y (T (N g 0 Z)) n c)/\A P (N g (k*4+3) Z)=T (Q I (f k).G)):=⟨SB P ZS.bx,(cC (j:=3) ZS.x C (by omega) rfl).1⟩
   refine q _ _ (λ_=>r) ?_;clear q K
   (try simp only[Act.put,nzL])
  all_goals
   have l:=ZS;clear ZS;obtain⟨zz,hzz⟩:=Bz HL m hm
   iterate 4
    refine bH 13 rfl rfl (by kernel_rfl) λK q=>?_;go_simp;refine q _ _ (λ_=>r) ?_;clear q K
    (try simp only[Act.put,nzL])
   have d0:=r.2;have d1:=(cC (j:=3) l.x C (by omega) rfl).2;have gl:=l.gne.2.2.2;have ZS:Hid (LStD w0 w R x g (U nm) (Q I ZO) (Q I ZP) (U tx) (Y G L c4) (P.setCell (N g (k*4+3) Z) (Q I zz)) _ g n c _):=l.setL (j:=3) (y:={ f k with G:=zz }) (u:=Q I zz) C (by omega) rfl hn1
 all_goals
  refine bH 0 rfl rfl (by kernel_rfl) λK q=>?_;go_simp;refine q _ _ (λh=>absurd rfl h) ?_;clear q K r
  (try simp only[Act.put,nzL])
  refine aT (by kernel_rfl) ?_ _;clear d0 d1 gl l;go_wp2;go_meet;exact⟨_,_,_,_,_,by omega,by omega,ZS⟩
abbrev DC (V:M)(g q:Nat)(d:aj)(b h i f:Nat):Prop:=A V (N g q Z)=T (U d.e)/\A V (N g (q+1) Z)=T (Q I d.H)/\A V (N g (q+2) Z)=T (Q I d.E)/\A V (N g (q+3) Z)=T (U d.y)/\A V (N g (q+4) Z)=T (Y (T (N b 0 Z)) d.m h)/\A V (N g (q+5) Z)=T (Y (T (N i 0 Z)) d.l f)
theorem BD{s0 s1 g f:ByteArray}{fz:Nat × Nat}(h:w.heap[b]?=T (J #[U s0,U s1,U g,U f] t fz))(m:s0.size<=5000)(h1:s1.size<=5000)(h2:g.size<=5000)(i:f.size<=5000)(k:Nat)(l:k<4):∃s:ByteArray,s.size<=5000/\A w (N b k Z)=T (U s):=by
 match k,l with
 |0,_=>exact⟨s0,m,by simp[World.cell?,h]⟩
 |1,_=>exact⟨s1,h1,by simp[World.cell?,h]⟩
 |2,_=>exact⟨g,h2,by simp[World.cell?,h]⟩
 |3,_=>exact⟨f,i,by simp[World.cell?,h]⟩
 |j+4,h5=>exact absurd h5 (by omega)
theorem DP.up{q lo:Nat}{e:Ending}{w':M}(h:DP w R q lo n e w')(hn:n<=m):DP w R q lo m e w':=by obtain⟨L,g,c,h1,h2,b,i,f⟩:=h;exact⟨L,g,c,h1,h2,b,nD i hn,f⟩
theorem ze{K:Nat}{i p f:Nat}{r:DR}(h:DSub W i r)(o:r.2.1=Y (T (N f 0 Z)) r.1.m g)(hR:Rd W R p)(l:p<=20000)(j:FitK K r.1)(hK:K<=80):Calls Tryz.prog 96 #[.pointer (T (N R 0 Z)),ZG #[Y (T (N f 0 Z)) r.1.m g]] W λe t=>DP W R (p+1000) 0 (200+K+1) e t:=by
 by_cases m:r.1.m=0;{rw[m];exact(ux R p f g W hR l).mono λ_ _ h=>h.up (by omega)}
 ·obtain⟨a,cap,e,q⟩:=h.ins;rw[o] at e;obtain⟨rfl,-,-⟩:=NQ e;rcases q with h1|⟨b,off,s,n⟩
  {exact absurd h1 m}
  ·cases s
   exact lJ (200+K) ⟨by omega,by omega⟩ R p f g r.1.m r.1.D W hR l n ⟨by omega,j.an⟩ j.asz
theorem zi (FQ:Cx)(K0 KK:Nat)(hK0:K0+1<=KK)(hKK:KK<=50)(R p:Nat)(a:Option Addr)(n cap:Nat)(f:Nat->aj)(w:M)(hf:SlDeed w a n f)(Gn:∀i,i<n->FitK K0 (f i))(hn:n<=450+K0)(hR:Rd w R p)(hp:p<=19000):Calls Tryz.prog 66 #[.pointer (T (N R 0 Z)),ZG #[Y a n cap]] w λe w'=>DAK KK w R (p+1100) e w':=by
 have Is:=ae FQ;clear FQ;have HF:=ae hf;have Gj:=ae Gn;have HR:=ae hR;have Gw:=hR.lt;clear hf Gn hR;have A0:=ae (((BS w).alloc ly (J #[Y a n cap] 37)).alloc (by simp) (J #[Y Z 0 0] 37));have Gu:Hid (((w.alloc (J #[Y a n cap] 37)).alloc (J #[Y Z 0 0] 37)).heap[z (B w)+1]?=T (J #[Y Z 0 0] 37 (0,0))):=by have h:=gM (w.alloc (J #[Y a n cap] 37)) (J #[Y Z 0 0] 37);rw[show(w.alloc (J #[Y a n cap] 37)).heap.size=z (B w)+1 by simp] at h;exact h
 have aq:((w.alloc (J #[Y a n cap] 37)).alloc (J #[Y Z 0 0] 37)).heap.size=z (B w)+2:=by simp
 go_enter func66,ntmps66;go_wp2_with fail;generalize World.alloc (World.alloc w _) _=W0 at A0 Gu aq ⊢;refine(xU a n cap f _ (by omega) (HF.aa A0 ly) (λi hi=>((Gj i hi).d (by omega)).fits)).mono ?_;rintro e w1 ⟨a1,c1,D,rfl,hD,FM,Gg,Fd⟩;have mv:=ae Gg;have GP:=ae hD.up;clear Gg;have hl:D.length=n:=by have:=A9 List.length FM;simpa using this
 have DQ:Hid (∀r∈D,FitK K0 r.1):=λr hr=>by have hm:r.1∈D.map (·.1):=KH.2 ⟨r,hr,rfl⟩;rw[FM] at hm;obtain⟨i,hi,e⟩:=KH.1 hm;rw[<-e];exact Gj i (J4.1 hi)
 have GC:=Fd.size;have B2:=(BS w1).alloc ly (J #[Y a1 D.length c1] 37);have S1:Hid (SpS KK w R (z (B w1)) (w1.alloc (J #[Y a1 D.length c1] 37)) p a1 c1 D):=by have O1:Only R w w1:=(Only.q A0).trans (Only.q (Fd.mono (by omega)));exact⟨((HR.aa A0 ly).aa Fd (by omega)).aa B2 ly,O1.trans (Only.q B2),(B2.block _ (by omega)).trans ((Fd.block _ (by omega)).trans Gu),gM w1 _,((hD.rw.aa B2 ly).mono (by omega)),λr hr=>(DQ r hr).up (by omega),Gw,by omega,by omega⟩
 have hX:z (B w)+2<=z (B w1):=by omega
 have hD9:D.length<=450+K0:=by omega
 clear hD Fd B2 GC aq A0 Gu HF Gj HR FM hl;go_upto_region 2 with fail;generalize World.alloc w1 _=W1 at S1 ⊢;generalize (z (B w1))=X at S1 hX ⊢;have bx:=S1.ab.1;by_cases hz:D.length=0
 ·obtain rfl:D=[]:=PX.1 hz;rw[JJ] at bx;clear hz;go_wp2_with fail;refine(aw R _ 2 _ S1.rd (by omega) (by omega) (by omega)).mono ?_;rintro e w2 ⟨x,rfl,x0,x1,ur,DE⟩;have G:=ae (S1.ac DE ur);clear DE ur S1 bx;go_wp2_with fail;refine(aw R _ 3 _ G.rd (by omega) (by omega) (by omega)).mono ?_;rintro e ZM ⟨y,rfl,y0,y1,At,CD⟩;have l:=ae (G.ac CD At);clear CD At G;obtain⟨m,hm⟩:∃m:Nat,400*x+y=(m:Int):=⟨(400*x+y).toNat,by omega⟩
  have Ht:IntKind.i64.wrap (400*x)=400*x:=by rw[AI];omega
  have Hv:m<=450:=by omega
  have hw2:IntKind.i64.wrap (m:Int)=(m:Int):=by rw[AI];omega
  have hmk:=λw=>Ep m (by omega) w;have rs:=l.rs;have r0:A ZM (N (z (B w)+1) 0 Z)=T (Y Z 0 0):=by simp[World.cell?,rs]
  have f0:ZM.frozen? (N (z (B w)+1) 0 Z)=ZA:=by simp[World.frozen?,rs]
  have l0:=ar rs;have FN:=ae (yU (m:=m) (ZN:=p+1100) l Hv (by omega));clear rs;go_wp2;exact bp (v:=ZG #[Y (T (N (z (B ZM)) 0 Z)) m m]) (by simp[results,results66,go_sem,r0,l0]) rfl FN.out
 obtain⟨g,Hs,e⟩:=cU S1.row.x (by omega);obtain⟨rfl,-,-⟩:=NQ e;clear e Hs;have nz:¬ ((D.length:Int)=0):=by omega
 go_wp2_with fail;refine(aw R _ (D.length:Int) _ S1.rd (by omega) (by omega) (by omega)).mono ?_;rintro e w2 ⟨ZR,rfl,aq,n9,ur,DE⟩;obtain⟨k,rfl⟩:=AT aq;have hk:k<D.length:=by omega
 have S0:=ae (S1.ac DE ur);clear DE ur S1 aq n9 bx;obtain⟨r,hr,hm⟩:=cZ hk;have ZO:=ae hr;have HM:=ae hm;clear hr hm;go_wp2_with fail;refine(aw R _ 13 _ S0.rd (by omega) (by omega) (by omega)).mono ?_;rintro e ZM ⟨s,rfl,hs0,GC,At,CD⟩;have G:=ae (S0.ac CD At);clear CD At S0;have FZ:=DQ r HM;have ZK:=FZ.up (show K0<=KK by omega);have htx:=FZ.tx;have Ho:=FZ.ln;go_upto_block 0 with fail;go_cut [8,9,10,11,12] (λ_ _ _ _ _ wx=>∃(a':Option Addr) (c' q':Nat) (D':List DR),q'<=p+1100/\Hid (SpS KK w R X wx q' a' c' D'));case first =>
  rcases(show(s=0∨s=1∨s=2∨s=3∨s=4∨s=5)∨(s=6∨s=7∨s=8)∨s=9∨s=10∨s=11∨s=12 by omega) with (h|h|h|h|h|h)|h6|rfl|rfl|rfl|rfl;rotate_left 6
  ·as_aux_lemma =>
    obtain⟨⟨ga,ca,ea⟩,O,cl,el⟩:=mv.out r HM;have EA:=ae ea;have EL:=ae el;clear ea el;rcases h6 with rfl|rfl|rfl;iterate 3
     ·go_wp2_with fail
      refine aD (λV=>A V (N X 0 Z)=T (Y (T (N g 0 Z)) D.length c1)/\DC V g (k*6) r.1 ga ca O cl) 11 (by kernel_rfl) ?_;have l:=ae (G.aa br.drew);clear G;generalize ZM.drew=E at l ⊢;have ZS:Hid (A E (N X 0 Z)=T (Y (T (N g 0 Z)) D.length c1)/\DC E g (k*6) r.1 ga ca O cl):=⟨l.ab.1,by have h:=(l.G (j:=0) ZO (by omega) rfl).1;rwa[KL] at h,(l.G (j:=1) ZO (by omega) rfl).1,(l.G (j:=2) ZO (by omega) rfl).1,(l.G (j:=3) ZO (by omega) rfl).1,(l.G (j:=4) ZO (by omega) (by rw[<-EA.out];rfl)).1,(l.G (j:=5) ZO (by omega) (by rw[<-EL.out];rfl)).1⟩
      iterate 9
       refine aH 0 (v:=?_) rfl rfl (by kernel_rfl) (λ_ _ _ h=>h) rfl ?_ ZS ?_;rotate_left
       ·(rintro wz ⟨s0,s1,s2,s3,s4,s5,s6⟩;go_simp)
        (try with_reducible rfl)
       (try simp only[Act.put,nzL])
      refine ai (i:=9) rfl (by kernel_rfl) λK ZT=>?_;go_simp;go_at_call 122;refine(oN (200+K0) ⟨by omega,by omega⟩ w R _ (z (B w)+2) O cl r.1.l r.1.u r.1.e r.1.y r.1.H r.1.E (T (N ga 0 Z)) r.1.m ca _ l.o Gw (by omega) (by have:=l.lt;omega) l.rd (by omega) (by rw[<-EL.out];exact(l.row.sub r HM).av) Ho ZK.lsz).mono ?_;rintro e S ⟨g5,n5,c5,f5,rfl,Gf,Gi,GL,⟨q5,hq5,GW⟩,Gz,fd⟩;obtain⟨kX,kg,Hc⟩:=l.kept HM EL fd;have ZJ:Hid (SpS KK w R X (ii S g k ({ r.1 with l:=n5,u:=f5 },Y (T (N ga 0 Z)) r.1.m ca,Y (T (N g5 0 Z)) n5 c5)) q5 (T (N g 0 Z)) c1 _):=l.deed GP ZO HM EL GW Gz fd _ ⟨l.actK HM EA EL fd,Gf⟩ ⟨ZK.nm,ZK.tx,ZK.an,ZK.asz,by show n5<=200+KK;omega,GL⟩;have F4:Hid (∀j,j<6->S.frozen? (N g (k*6+j) Z)=ZA):=λj hj=>(JK (a:=(N g (k*6+j) Z)) kg).trans (l.G (j:=j) ZO hj (gq (show j<(ddV r).length from hj))).2;have th:Hid (A S (N X 0 Z)=T (Y (T (N g 0 Z)) D.length c1)/\DC S g (k*6) r.1 ga ca O cl):=⟨(cq (a:=(N X 0 Z)) kX).trans ZS.1,(cq (a:=(N g (k*6) Z)) kg).trans ZS.2.1,(cq (a:=(N g (k*6+1) Z)) kg).trans ZS.2.2.1,(cq (a:=(N g (k*6+2) Z)) kg).trans ZS.2.2.2.1,(cq (a:=(N g (k*6+3) Z)) kg).trans ZS.2.2.2.2.1,(cq (a:=(N g (k*6+4) Z)) kg).trans ZS.2.2.2.2.2.1,(cq (a:=(N g (k*6+5) Z)) kg).trans ZS.2.2.2.2.2.2⟩
      clear GW Gz fd Gf GL kX kg ZS l;have ZS:=th;clear th;refine ZT _ _ (λ_=>ZS) ?_;clear ZT K
      (try simp only[Act.put,nzL])
      refine ai (i:=10) rfl (by kernel_rfl) λK ZT=>?_;go_simp;refine ZT _ _ (λ_=>ZS) ?_;clear ZT K
      (try simp only[Act.put,nzL])
      obtain⟨-,d0,d1,d2,d3,d4,d5⟩:=ZS.out;have y0:=F4.out 0 (by omega);have y1:=F4.out 1 (by omega);have y2:=F4.out 2 (by omega);have y3:=F4.out 3 (by omega);have y4:=F4.out 4 (by omega);have y5:=F4.out 5 (by omega);rw[KL] at y0;refine ai (i:=11) rfl (by kernel_rfl) λK ZT=>?_;go_simp;refine ZT _ _ (λh=>absurd rfl h) ?_;clear ZT K ZS
      (try simp only[Act.put,nzL])
      refine aT (by kernel_rfl) ?_ _;clear d0 d1 d2 d3 d4 d5 y0 y1 y2 y3 y4 y5;go_wp2;go_meet;exact⟨_,_,_,_,by omega,ZJ⟩
  ·skip;by_cases Ic:(0:Int)<(k:Int)
   ·obtain⟨m,rfl⟩:∃m,k=m+1:=⟨k - 1,by omega⟩
    have h1l:(1:Int)<(D.length:Int):=by omega
    obtain⟨r1,Ha,F0⟩:=cZ (R:=D) (i:=m) (by omega);have ld:=ae Ha;have Gp:=ae F0;clear Ha F0;obtain⟨⟨ga,ca,ea⟩,O,cl,el⟩:=mv.out r HM;obtain⟨⟨gb,cb,eb⟩,gm,cm,em⟩:=mv.out r1 Gp;have EA:=ae ea;have EL:=ae el;have EB:=ae eb;have EM:=ae em;clear ea el eb em;have Ik:=((DQ r1 Gp).up (show K0<=KK by omega))
    have bx:=G.ab.1;have C2:Hid (DC ZM g ((m+1)*6) r.1 ga ca O cl):=⟨by have h:=(G.G (j:=0) ZO (by omega) rfl).1;rwa[KL] at h,(G.G (j:=1) ZO (by omega) rfl).1,(G.G (j:=2) ZO (by omega) rfl).1,(G.G (j:=3) ZO (by omega) rfl).1,(G.G (j:=4) ZO (by omega) (by rw[<-EA.out];rfl)).1,(G.G (j:=5) ZO (by omega) (by rw[<-EL.out];rfl)).1⟩
    obtain⟨e0,e1,e2,e3,e4,e5⟩:=C2.out;have AB:=ae ((BS ZM).alloc ly (J #[U r.1.e,Q I r.1.H,Q I r.1.E,U r.1.y,Y (T (N ga 0 Z)) r.1.m ca,Y (T (N O 0 Z)) r.1.l cl] 46));have YB:=ae (gM ZM (J #[U r.1.e,Q I r.1.H,Q I r.1.E,U r.1.y,Y (T (N ga 0 Z)) r.1.m ca,Y (T (N O 0 Z)) r.1.l cl] 46));have l:=ae (G.aa AB);have hwm:IntKind.i64.wrap (((m+1:Nat):Int) - 1)=(m:Int):=by rw[AI];omega
    have hwm2:IntKind.i64.wrap (m:Int)=(m:Int):=by rw[AI];omega
    have hml:m<D.length:=by omega
    have Ia:(m:Int)+1<(D.length:Int):=by omega
    have hk2:(0:Int)<=(m:Int)+1:=by omega
    have It:((m:Int)+1).toNat=m+1:=by omega
    go_upto_region 41 with fail;generalize World.alloc ZM _=v2 at l YB ⊢;have GF:z (B ZM)≠g:=by have:=G.gb.2.1;omega
    generalize (z (B ZM))=yb at YB GF ⊢;clear bx e0 e1 e2 e3 e4 e5 C2 AB G;refine aD (λV=>A V (N X 0 Z)=T (Y (T (N g 0 Z)) D.length c1)/\DC V g (m*6) r1.1 gb cb gm cm) 10 (by kernel_rfl) ?_;have C:=ae (l.aa br.drew);have Gq:Hid (v2.drew.heap[yb]?=T (J #[U r.1.e,Q I r.1.H,Q I r.1.E,U r.1.y,Y (T (N ga 0 Z)) r.1.m ca,Y (T (N O 0 Z)) r.1.l cl] 46 (0,0))):=YB.out;clear l YB;generalize v2.drew=E at C Gq ⊢;have ZS:Hid (A E (N X 0 Z)=T (Y (T (N g 0 Z)) D.length c1)/\DC E g (m*6) r1.1 gb cb gm cm):=⟨C.ab.1,by have h:=(C.G (j:=0) ld (by omega) rfl).1;rwa[KL] at h,(C.G (j:=1) ld (by omega) rfl).1,(C.G (j:=2) ld (by omega) rfl).1,(C.G (j:=3) ld (by omega) rfl).1,(C.G (j:=4) ld (by omega) (by rw[<-EB.out];rfl)).1,(C.G (j:=5) ld (by omega) (by rw[<-EM.out];rfl)).1⟩
    iterate 9
     refine aH 0 (v:=?_) rfl rfl (by kernel_rfl) (λ_ _ _ h=>h) rfl ?_ ZS ?_;rotate_left
     ·(rintro wz ⟨s0,s1,s2,s3,s4,s5,s6⟩;go_simp)
      (try with_reducible rfl)
     (try simp only[Act.put,nzL])
    refine ai (i:=9) rfl (by kernel_rfl) λK ZT=>?_;go_simp;refine ZT _ _ (λ_=>ZS) ?_;clear ZT K
    (try simp only[Act.put,nzL])
    have F4:Hid (∀j,j<6->E.frozen? ⟨g,(m+1)*6+j,Z⟩=ZA/\∃u,E.cell? ⟨g,(m+1)*6+j,Z⟩=T u):=λj hj=>by have h:=C.G (j:=j) ZO hj (gq (show j<(ddV r).length from hj));exact⟨h.2,_,h.1⟩
    obtain⟨y0,u0,d0⟩:=F4.out 0 (by omega);obtain⟨y1,u1,d1⟩:=F4.out 1 (by omega);obtain⟨y2,u2,d2⟩:=F4.out 2 (by omega);obtain⟨y3,u3,d3⟩:=F4.out 3 (by omega);obtain⟨y4,u4,d4⟩:=F4.out 4 (by omega);obtain⟨y5,u5,d5⟩:=F4.out 5 (by omega);rw[KL] at y0 d0;have Hc:=C.gb.2.1;have ZJ:=ae (C.six ZO (r1.1,Y (T (N gb 0 Z)) r1.1.m cb,Y (T (N gm 0 Z)) r1.1.l cm) ((C.row.sub r1 Gp).form EB EM) Ik);have Gt:=ae ((eA E g (m+1) yb (r1.1,Y (T (N gb 0 Z)) r1.1.m cb,Y (T (N gm 0 Z)) r1.1.l cm) GF).trans Gq);have T5:Hid (DSub (ii E g (m+1) (r1.1,Y (T (N gb 0 Z)) r1.1.m cb,Y (T (N gm 0 Z)) r1.1.l cm)) (z (B w)+2) (r.1,Y (T (N ga 0 Z)) r.1.m ca,Y (T (N O 0 Z)) r.1.l cl)):=by obtain⟨cs,ZR,hg⟩:=C.gb.2.2.2;exact((C.row.sub r HM).form EA EL).six hg
    unfold ii at ZJ Gt T5;refine ai (i:=10) rfl (by kernel_rfl) λK ZT=>?_;go_simp;refine ZT _ _ (λh=>absurd rfl h) ?_;clear ZT K ZS
    (try simp only[Act.put,nzL])
    refine aT (by kernel_rfl) ?_ _;clear d0 d1 d2 d3 d4 d5 y0 y1 y2 y3 y4 y5 Hc F4 C Gq;go_upto_region 42 with fail;generalize World.setCell (World.setCell (World.setCell (World.setCell (World.setCell (World.setCell E _ _) _ _) _ _) _ _) _ _) _ _=v5 at ZJ Gt T5 ⊢;have n8:Hid ((D.set (m+1) (r1.1,Y (T (N gb 0 Z)) r1.1.m cb,Y (T (N gm 0 Z)) r1.1.l cm))[m]?=T r1):=by show _=_;rw[LZ (by omega)];exact ld
    have ZI:=ae (ZJ.six n8 (r.1,Y (T (N ga 0 Z)) r.1.m ca,Y (T (N O 0 Z)) r.1.l cl) T5 ZK);have bx:=ZJ.ab.1;rw[JN] at bx;have ZQ:=Gt.out;have q0:A v5 (N yb 0 Z)=T (U r.1.e):=by simp[World.cell?,ZQ]
    have q1:A v5 (N yb 1 Z)=T (Q I r.1.H):=by simp[World.cell?,ZQ]
    have q2:A v5 (N yb 2 Z)=T (Q I r.1.E):=by simp[World.cell?,ZQ]
    have q3:A v5 (N yb 3 Z)=T (U r.1.y):=by simp[World.cell?,ZQ]
    have q4:A v5 (N yb 4 Z)=T (Y (T (N ga 0 Z)) r.1.m ca):=by simp[World.cell?,ZQ]
    have q5:A v5 (N yb 5 Z)=T (Y (T (N O 0 Z)) r.1.l cl):=by simp[World.cell?,ZQ]
    have F5:Hid (∀j,j<6->v5.frozen? (N g (m*6+j) Z)=ZA/\∃u,A v5 (N g (m*6+j) Z)=T u):=λj hj=>by have h:=ZJ.G (j:=j) n8 hj (gq (show j<(ddV r1).length from hj));exact⟨h.2,_,h.1⟩
    obtain⟨y0,u0,d0⟩:=F5.out 0 (by omega);obtain⟨y1,u1,d1⟩:=F5.out 1 (by omega);obtain⟨y2,u2,d2⟩:=F5.out 2 (by omega);obtain⟨y3,u3,d3⟩:=F5.out 3 (by omega);obtain⟨y4,u4,d4⟩:=F5.out 4 (by omega);obtain⟨y5,u5,d5⟩:=F5.out 5 (by omega);rw[KL] at y0 d0;have gl5:=ZJ.gb.2.1;clear ZQ ZJ;go_wp2;go_meet;exact⟨_,_,_,_,by omega,ZI⟩
   ·by_cases h1:(1:Int)<(D.length:Int)
    iterate 2
     ·go_wp2
      go_meet;exact⟨_,_,_,_,by omega,G⟩
  ·as_aux_lemma =>
    have hcap:=iS G.row.x;obtain⟨FY,hj,aq,n9,F7⟩:=JT fX;have Ht:IntKind.i64.wrap ((k:Int)+1)=(k:Int)+1:=by rw[AI];omega
    have Ia:(k:Int)+1<=(D.length:Int):=by omega
    have It:((k:Int)+1).toNat=k+1:=by omega
    have hkc:(k:Int)<=(c1:Int):=by omega
    have Ic:(0:Int)<=(k:Int)+1:=by omega
    obtain⟨A2,Ip,GA⟩:=xr (base:=z (B w)+2) (g:=g) (c:=c1) hk (by omega);have Id:=ae GA;clear GA;go_wp2_with fail;refine aD (λV=>A V (N X 0 Z)=T (Y (T (N g 0 Z)) D.length c1)) 13 (by kernel_rfl) ?_;have l:=ae (G.aa br.drew);clear G;generalize ZM.drew=E at l ⊢;have ZS:=ae l.ab.1;iterate 4
     refine aH 1 (v:=?_) rfl rfl (by kernel_rfl) (λ_ _ _ h=>h) rfl ?_ ZS ?_;rotate_left
     ·(intro wz s0;go_simp)
      (try with_reducible rfl)
     (try simp only[Act.put,nzL])
    iterate 5
     refine aH 6 (v:=?_) rfl rfl (by kernel_rfl) (λ_ _ _ h=>h) rfl ?_ ZS ?_;rotate_left
     ·(intro wz s0;go_simp)
      (try with_reducible rfl)
     (try simp only[Act.put,nzL])
    clear Ip;refine ai (i:=0) rfl (by kernel_rfl) λK ZT=>?_;go_simp;have GU:=l.lt;have H7:=l.hX;have A4:=ae ((BS E).alloc ly (J #[] 46));have O4:=ae (KJ (base:=z (B w)+2) (e:=46) (size:=6) E #[] 0 (by omega) (by unfold maxLen;omega) rfl);have C:=ae (l.aa A4);have th:=ae C.ab.1;refine ZT _ _ (λ_=>th) ?_;clear ZT K
    (try simp only[Act.put,nzL])
    refine ai (i:=5) rfl (by kernel_rfl) (λK ZT=>?_);refine aW rfl (.tmp 247) (.tmp 251) 35 rfl (z (B w)+2) 46 FY (ZG #[U ⟨#[]⟩,Q I 0,Q I 0,U ⟨#[]⟩,Y Z 0 0,Y Z 0 0]) 6 96 L8 hj aq n9 F7 rfl (by decide) (Y (T (N (z (B E)) 0 Z)) 0 0) 0 [] (by simp[Act.eval]) O4.out (N g 0 Z) k c1 ((D.take k).flatMap ddV) (by simp[Act.eval]) (by rw[ek ddV 6 (λ_=>rfl),KN,MB (by omega)]) (yV k C.row.x) (λu hu=>pF D mv u (by obtain⟨L,h2,h3⟩:=LN.1 hu;exact LN.2 ⟨L,RL h2,h3⟩)) (by unfold maxLen;omega) (by omega) (by simp;omega) ?_;intro v5 w5 ro Bk Gr;simp only[JC,JW] at ro;have B5:=ae (bg A4 Bk (by simp) (λj e=>by simp[Value.ownBlock] at e;omega));have Gs:∀j,v5.ownBlock=T j->z (B E)<=j:=λj e=>by
     rcases Gr with h|h;{rw[h] at e;simp[Value.ownBlock] at e;omega};{rw[h] at e;have:=IT e;simp at this;omega}
    have WB:=ae Gs;have O5:=ae ro;have ZJ:=ae (l.aa B5);have Gx:=ae ZJ.ab.1;clear ro Bk Gr Gs C O4 A4 th ZS;refine ZT _ _ (λ_=>Gx) ?_;clear ZT K
    (try simp only[Act.put,nzL])
    obtain⟨a5,c5,rfl⟩:=aL O5;refine ai (i:=11) rfl (by kernel_rfl) λK ZT=>?_;refine aW rfl (.tmp 252) (.tmp 257) 35 rfl (z (B w)+2) 46 FY (ZG #[U ⟨#[]⟩,Q I 0,Q I 0,U ⟨#[]⟩,Y Z 0 0,Y Z 0 0]) 6 96 L8 hj aq n9 F7 rfl (by decide) (Y a5 k c5) k ((D.take k).flatMap ddV) (by simp[Act.eval]) O5.out A2 (D.length - (k+1)) (c1 - (k+1)) ((D.drop (k+1)).flatMap ddV) (by simp[Act.eval]) (by rw[ek ddV 6 (λ_=>rfl),J6]) (Id _ ZJ.row.x) (λu hu=>pF D mv u (by obtain⟨L,h2,h3⟩:=LN.1 hu;exact LN.2 ⟨L,List.mem_of_mem_drop h2,h3⟩)) (by unfold maxLen;omega) (by omega) (by have:=B5.size;omega) ?_;intro v6 w6 bt sm _;have B6:=ae (bg B5 sm (B5.size) (λj e=>WB j e));rw[<-JA] at bt;obtain⟨a6,c6,rfl⟩:=aL bt;obtain⟨D2,FV⟩:∃D2,D2=D.take k++D.drop (k+1):=⟨_,rfl⟩
    have FK:D2.length=k+(D.length - (k+1)):=by rw[FV,eL,KN,J6,MB (by omega)]
    rw[<-FV,<-FK] at bt;rw[<-FK];have ZI:=ae (l.aa B6);have FO:∀L∈D2,L∈D:=λL h2=>by rw[FV] at h2;exact(BC.1 h2).elim RL List.mem_of_mem_drop
    have S7:=ae (l.box_ B6 bt (λL h2=>ZI.row.sub L (FO L h2)) (λL h2=>ZI.az L (FO L h2)) (by omega));clear FV;have FW:=ae ZI.ab;clear bt sm FO FK ZJ O5 WB Gx;refine ZT _ _ (λ_=>FW.1) ?_;clear ZT K
    (try simp only[Act.put,nzL])
    refine ai (i:=12) rfl (by kernel_rfl) λK ZT=>?_;go_simp;refine ZT _ _ (λ_=>FW.1) ?_;clear ZT K
    (try simp only[Act.put,nzL])
    have d0:=FW.1;have d1:=FW.2;have H9:=ZI.lt;refine ai (i:=13) rfl (by kernel_rfl) λK ZT=>?_;go_simp;refine ZT _ _ (λh=>absurd rfl h) ?_;clear ZT K
    (try simp only[Act.put,nzL])
    refine aT (by kernel_rfl) ?_ _;clear d0 d1 H9 l ZI;go_wp2;go_meet;exact⟨_,_,_,_,by omega,S7⟩
  ·as_aux_lemma =>
    go_wp2_with fail;refine(aw R _ 3 _ G.rd (by omega) (by omega) (by omega)).mono ?_;rintro e w4 ⟨ZR,rfl,z0,z1,ZP,H⟩;have l:=ae (G.ac H ZP);clear H ZP G;obtain⟨m,hm⟩:∃m:Nat,60+ZR - 1=(m:Int):=⟨(60+ZR - 1).toNat,by omega⟩
    go_wp2_with fail;refine(Is m _ (by omega)).mono ?_;rintro e w5 ⟨a5,n5,c5,f5,rfl,Hf,Gh,Gi,Hd⟩;have C:=ae (l.aa Gh);have rs:=C.rs;have r0:A w5 (N (z (B w)+1) 0 Z)=T (Y Z 0 0):=by simp[World.cell?,rs]
    have f0:w5.frozen? (N (z (B w)+1) 0 Z)=ZA:=by simp[World.frozen?,rs]
    have l0:=ar rs;have FN:=ae (l.other (ZN:=p+1100) Gh Hf Gi Hd (by omega));clear rs Gh Hf Gi Hd;go_wp2;try simp only[Exit.inBlock,Exit.then]
    exact bp (v:=ZG #[Y a5 n5 c5]) (by simp[results,results66,go_sem,r0]) rfl FN.out
  ·skip;have AB:=ae ((BS ZM).alloc ly (J #[U ⟨#[117,110,117,115,101,100]⟩,Q I 2,Q I 0,U ⟨#[]⟩,Y Z 0 0,Y Z 0 0] 46));have FB:=ae (gM ZM (J #[U ⟨#[117,110,117,115,101,100]⟩,Q I 2,Q I 0,U ⟨#[]⟩,Y Z 0 0,Y Z 0 0] 46));have l:=ae (G.aa AB);have He:z (B w)+2<=z (B ZM):=by have:=G.lt;omega
   have Hg:z (B ZM)≠X:=by have:=G.lt;omega
   have GI:z (B ZM)≠g:=by have:=G.gb.2.1;omega
   go_wp2_with fail;generalize World.alloc ZM _=v2 at l FB ⊢;generalize (z (B ZM))=fb at FB He Hg GI ⊢;clear AB G;go_loopg [10] D.length (λgh i wr=>∃(k2 q2:Nat) (nm tx:ByteArray) (kd:Int),k2+gh=D.length/\q2<=p+2+k2/\i=Q I k2/\nm.size<=5000/\tx.size<=2000+K0/\Hid (SpS KK w R X wr q2 (T (N g 0 Z)) c1 D)/\Hid (wr.heap[fb]?=T (J #[U nm,Q I kd,Q I 0,U tx,Y Z 0 0,Y Z 0 0] 46 (0,0))));case atStart=>exact⟨0,_,_,_,_,by omega,by omega,rfl,by decide,IH _,l,FB⟩
   case round =>
    clear l FB;obtain⟨k2,q2,nm,tx,kd,hg2,hq2,rfl,G8,Hm,l,FB⟩:=hrel;have hwk:IntKind.i64.wrap ((k2:Int)+1)=(k2:Int)+1:=by rw[AI];omega
    go_upto_region 9 with fail;go_cut [41] (λIl wx=>∃(b1:Bool) (q3:Nat),Il=ZC b1/\(b1=ZF->k2<D.length)/\q3<=q2+1/\Hid (SpS KK w R X wx q3 (T (N g 0 Z)) c1 D)/\Hid (wx.heap[fb]?=T (J #[U nm,Q I kd,Q I 0,U tx,Y Z 0 0,Y Z 0 0] 46 (0,0))));case first =>
     by_cases Gm:(k2:Int)<(D.length:Int)
     {go_wp2_with fail;refine(aw R _ 2 _ l.rd (by omega) (by omega) (by omega)).mono ?_;rintro e w4 ⟨ZR,rfl,z0,z1,ZP,H⟩;have C:=ae (l.ac H ZP);have Fk:=ae ((H.block fb (ar FB) (by omega)).trans FB);clear H ZP;go_wp2;go_meet;exact⟨_,_,rfl,λ_=>by omega,by omega,C,Fk⟩};{go_wp2;go_meet;exact⟨_,_,rfl,λh=>by simp at h,by omega,l,FB⟩}
    case rest =>
    clear l FB;obtain⟨b1,q3,rfl,H6,hq3,l,FB⟩:=hcut;cases b1 with
    |true =>
     have Gm:k2<D.length:=H6 rfl;obtain⟨L,GY,Hb⟩:=cZ (R:=D) Gm;have n8:=ae GY;have Gy:=(DQ L Hb)
     clear GY Hb;have bx:=l.ab.1;have GO:=(l.G (j:=1) n8 (by omega) rfl).1;by_cases h3:L.1.H=3
     ·rw[h3] at GO;have H3:=ae h3;clear h3;go_wp2;go_roundg (D.length - 1 - k2);case measure=>omega
      case rel=>exact⟨k2+1,q3,nm,tx,kd,by omega,by omega,by go_num,G8,Hm,l,FB⟩
     ·have n3:(L.1.H == 3)=ZA:=by simpa using h3
      go_upto_region 12 with fail;clear bx GO;refine aD (λV=>A V (N X 0 Z)=T (Y (T (N g 0 Z)) D.length c1)/\A V (N g (k2*6) Z)=T (U L.1.e)/\A V (N g (k2*6+1) Z)=T (Q I L.1.H)/\A V (N g (k2*6+3) Z)=T (U L.1.y)) 19 (by kernel_rfl) ?_;have C:=ae (l.aa br.drew);have Fk:Hid (wc.drew.heap[fb]?=T (J #[U nm,Q I kd,Q I 0,U tx,Y Z 0 0,Y Z 0 0] 46 (0,0))):=FB.out;clear l FB;generalize wc.drew=E at C Fk ⊢;have ZS:Hid (A E (N X 0 Z)=T (Y (T (N g 0 Z)) D.length c1)/\A E (N g (k2*6) Z)=T (U L.1.e)/\A E (N g (k2*6+1) Z)=T (Q I L.1.H)/\A E (N g (k2*6+3) Z)=T (U L.1.y)):=⟨C.ab.1,by have h:=(C.G (j:=0) n8 (by omega) rfl).1;rwa[KL] at h,(C.G (j:=1) n8 (by omega) rfl).1,(C.G (j:=3) n8 (by omega) rfl).1⟩
      iterate 19
       refine aH 0 (v:=?_) rfl rfl (by kernel_rfl) (λ_ _ _ h=>h) rfl ?_ ZS ?_;rotate_left
       ·(rintro wz ⟨s0,s1,s2,s3⟩;go_simp)
        (try with_reducible rfl)
       (try simp only[Act.put,nzL])
      have ZQ:=Fk.out;have lf:=ar ZQ;have q0:A E (N fb 0 Z)=T (U nm):=by simp[World.cell?,ZQ]
      have q1:A E (N fb 1 Z)=T (Q I kd):=by simp[World.cell?,ZQ]
      have Hu:A E (N fb 2 Z)=T (Q I 0):=by simp[World.cell?,ZQ]
      have Hy:A E (N fb 3 Z)=T (U tx):=by simp[World.cell?,ZQ]
      have q4:A E (N fb 4 Z)=T (Y Z 0 0):=by simp[World.cell?,ZQ]
      have q5:A E (N fb 5 Z)=T (Y Z 0 0):=by simp[World.cell?,ZQ]
      have z0:∀j,E.frozen? (N fb j Z)=ZA:=λj=>by simp[World.frozen?,ZQ]
      have ZJ:=ae (C.aside He Hg GI ZQ (U L.1.e) (Q I L.1.H) (Q I 0) (U L.1.y) (Y Z 0 0) (Y Z 0 0));have Ij:=ae (LBx.six (W:=E) (b:=fb) ZQ (U L.1.e) (Q I L.1.H) (Q I 0) (U L.1.y) (Y Z 0 0) (Y Z 0 0));clear ZQ;refine ai (i:=19) rfl (by kernel_rfl) λK ZT=>?_;go_simp;refine ZT _ _ (λh=>absurd rfl h) ?_;clear ZT K ZS
      (try simp only[Act.put,nzL])
      refine aT (by kernel_rfl) ?_ _;clear q0 q1 Hu Hy q4 q5 z0 C Fk;go_wp2;go_roundg (D.length - 1 - k2);case measure=>omega
      case rel=>exact⟨k2+1,q3,L.1.e,L.1.y,L.1.H,by omega,by omega,by go_num,Gy.nm,Gy.tx,ZJ,Ij⟩
    |false =>
     have ZQ:=FB.out;have lf:=ar ZQ;have e0:A wc (N fb 0 Z)=T (U nm):=by simp[World.cell?,ZQ]
     have e1:A wc (N fb 1 Z)=T (Q I kd):=by simp[World.cell?,ZQ]
     have e2:A wc (N fb 2 Z)=T (Q I 0):=by simp[World.cell?,ZQ]
     have e3:A wc (N fb 3 Z)=T (U tx):=by simp[World.cell?,ZQ]
     have e4:A wc (N fb 4 Z)=T (Y Z 0 0):=by simp[World.cell?,ZQ]
     have e5:A wc (N fb 5 Z)=T (Y Z 0 0):=by simp[World.cell?,ZQ]
     clear ZQ;have bx:=l.ab.1;have lx:=l.lt;have H7:=l.hX;obtain⟨FY,hj,aq,n9,F7⟩:=JT fX;have A4:=ae ((BS wc).alloc ly (J #[U nm,Q I kd,Q I 0,U tx,Y Z 0 0,Y Z 0 0] 46));have O4:Hid ((wc.alloc (J #[U nm,Q I kd,Q I 0,U tx,Y Z 0 0,Y Z 0 0] 46)).ownsRow (z (B w)+2) 46 6 (Y (T (N (z (B wc)) 0 Z)) 1 1) 1 [U nm,Q I kd,Q I 0,U tx,Y Z 0 0,Y Z 0 0]):=ku (cs:=#[U nm,Q I kd,Q I 0,U tx,Y Z 0 0,Y Z 0 0]) (by omega) (by unfold maxLen;omega) rfl;have C:=ae (l.aa A4);have Ih:=C.ab.1;have Iq:=C.ab.2;go_wp2_with (at_builtin;refine IS _ rfl (.tmp 71) (.tmp 73) 35 rfl (z (B w)+2) 46 FY (ZG #[U ⟨#[]⟩,Q I 0,Q I 0,U ⟨#[]⟩,Y Z 0 0,Y Z 0 0]) 6 96 L8 hj aq n9 F7 rfl (by decide) (Y (T (N (z (B wc)) 0 Z)) 1 1) 1 [U nm,Q I kd,Q I 0,U tx,Y Z 0 0,Y Z 0 0] (by simp[Act.eval]) O4.out (N g 0 Z) D.length c1 (D.flatMap ddV) (by simp[Act.eval]) (ek ddV 6 (λ_=>rfl) D) (λj u hu=>C.row.x.cells (g:=g) rfl j u hu) (pF D mv) (by unfold maxLen;omega) (by omega) (by simp;omega) ?_;intro v5 w5 FP FX Hk;obtain⟨g5,c5,rfl⟩:=cU FP (by omega);have B5:=ae (bg A4 FX (by simp) (λj e=>by simp[Value.ownBlock] at e;omega));have O5:=ae FP;have ZJ:=ae (l.aa B5);obtain⟨Io,Hw⟩:=ZJ.ab;have Ib:=ZJ.lt;clear FP FX Hk);obtain⟨D3,qr⟩:∃D3,D3=km nm tx kd::D:=⟨_,rfl⟩
     have Gl:D3.length=1+D.length:=by rw[qr,BG];omega
     have F8:w5.ownsRow (z (B w)+2) 46 6 (Y (T (N g5 0 Z)) D3.length c5) D3.length (D3.flatMap ddV):=by rw[Gl,qr,JZ];exact O5
     have ZI:=ae (l.box_ B5 F8 (λr6 h6=>by
      rw[qr] at h6;rcases BO.1 h6 with rfl|h6;{exact Bo _ _ _ _ _}
      ·exact ZJ.row.sub r6 h6) (λr6 h6=>by
      rw[qr] at h6;rcases BO.1 h6 with rfl|h6;{exact ts kd G8 (by omega)}
      ·exact ZJ.az r6 h6) (by omega))
     have UP:Hid ((D3.map (·.2.2)).Pairwise Apt):=by rw[qr];exact EY GP nm tx kd
     have hn3:D3.length<=450+KK:=by omega
     rw[<-Gl];generalize World.setCell w5 _ _=v6 at ZI ⊢;clear F8 qr Gl O5 B5 ZJ C A4 O4 l FB Io Hw Ib Ih Iq bx lx e0 e1 e2 e3 e4 e5;go_loopg [11,12] D3.length (λgh i _ wr=>∃(k3:Nat) (D4:List DR),k3+gh=D3.length/\i=Q I k3/\Hid (D4.length=D3.length)/\Hid (D4.map (·.2)=D3.map (·.2))/\Hid (SpS KK w R X wr q3 (T (N g5 0 Z)) c5 D4));case atStart=>exact⟨0,D3,by omega,rfl,rfl,rfl,ZI⟩
     case round =>
      clear ZI;obtain⟨k3,D4,hg3,rfl,DS,GK,S7⟩:=hrel;have Hp:D4.length<=450+KK:=by have:=DS.out;omega
      have hwk3:IntKind.i64.wrap ((k3:Int)+1)=(k3:Int)+1:=by rw[AI];have:=DS.out;omega
      have Ig:=S7.ab.1;by_cases Gm:(k3:Int)<(D4.length:Int)
      ·obtain⟨r4,Hh,GV⟩:=cZ (R:=D4) (i:=k3) (by omega);have Hr:=ae Hh;have hln4:=(S7.az r4 GV).ln;clear Hh GV;go_wp2_with fail;clear Ig;go_loopg [12] r4.1.l (λgh j wr=>∃(j3:Nat) (D5:List DR) (P:DR),j3+gh=r4.1.l/\j=Q I j3/\Hid (D5.length=D4.length)/\Hid (D5.map (·.2)=D4.map (·.2))/\Hid (D5[k3]?=T P)/\Hid (P.1.l=r4.1.l)/\Hid (SpS KK w R X wr q3 (T (N g5 0 Z)) c5 D5));case atStart=>exact⟨0,D4,r4,by omega,rfl,rfl,rfl,Hr,rfl,S7⟩
       case round =>
        clear S7;obtain⟨j3,D5,P,hg5,rfl,F3,Ga,ph,ex,S8⟩:=hrel;have Ii:k3<D5.length:=by have:=F3.out;omega
        have GT:=JF ph.out;have Gk:=ae GT;clear GT;have hln5:P.1.l<=200+KK:=by have:=ex.out;omega
        have hwj3:IntKind.i64.wrap ((j3:Int)+1)=(j3:Int)+1:=by rw[AI];have:=ex.out;omega
        obtain⟨al,cl,el⟩:=eS (S8.row.sub P Gk).av;have EL:=ae el;have Im:=S8.ab.1;have Hx:_=T (Value.slice al P.1.l cl):=(S8.G (j:=5) ph (by omega) (by rw[<-el];rfl)).1;clear el;by_cases hjl:(j3:Int)<(P.1.l:Int)
        ·have Gb:j3<P.1.l:=by omega
         obtain⟨O,Hz,e2⟩:=cU (S8.row.sub P Gk).av (by omega);rw[EL.out] at e2;obtain⟨rfl,-,-⟩:=NQ e2;clear e2 Hz;have OL:Hid (∀V q,SpS KK w R X V q (T (N g5 0 Z)) c5 D5->V.ownsRow (z (B w)+2) 91 4 (Y (T (N O 0 Z)) P.1.l cl) P.1.l (bQ P.1.u P.1.l)):=λV q hV=>by rw[<-EL.out];exact(hV.row.sub P Gk).av
         have ak:=(cC (j:=1) (OL _ _ S8) Gb (by omega) rfl).1;cases hask:(P.1.u j3).ask with
         |false =>
          rw[hask] at ak;clear hask;go_wp2;go_roundg (r4.1.l - 1 - j3);case measure=>have:=ex.out;omega
          case rel=>exact⟨j3+1,D5,P,by have:=ex.out;omega,by go_num,F3,Ga,ph,ex,S8⟩
         |true =>
          rw[hask] at ak;clear hask;go_upto_region 21 with fail;clear Im Hx ak;refine aD (λV=>A V (N X 0 Z)=T (Y (T (N g5 0 Z)) D5.length c5)/\A V (N g5 (k3*6+5) Z)=T (Y (T (N O 0 Z)) P.1.l cl)/\A V (N O (j3*4+3) Z)=T (Q I (P.1.u j3).G)) 20 (by kernel_rfl) ?_;have S9:=ae (S8.aa br.drew);clear S8;generalize wr.drew=v8 at S9 ⊢;have ZS:Hid (A v8 (N X 0 Z)=T (Y (T (N g5 0 Z)) D5.length c5)/\A v8 (N g5 (k3*6+5) Z)=T (Y (T (N O 0 Z)) P.1.l cl)/\A v8 (N O (j3*4+3) Z)=T (Q I (P.1.u j3).G)):=⟨S9.ab.1,(S9.G (j:=5) ph (by omega) (by rw[<-EL.out];rfl)).1,(cC (j:=3) (OL _ _ S9) Gb (by omega) rfl).1⟩
          iterate 18
           refine aH 0 (v:=?_) rfl rfl (by kernel_rfl) (λ_ _ _ h=>h) rfl ?_ ZS ?_;rotate_left
           ·(rintro wz ⟨s0,s1,s2⟩;go_simp)
            (try with_reducible rfl)
           (try simp only[Act.put,nzL])
          generalize IntKind.i64.wrap ((P.1.u j3).G+1)=zz;iterate 2
           refine bH 18 rfl rfl (by kernel_rfl) λK ZT=>?_;go_simp;refine ZT _ _ (λ_=>ZS) ?_;clear ZT K
           (try simp only[Act.put,nzL])
          have d0:=ZS.2.2;have d1:=(cC (j:=3) (OL _ _ S9) Gb (by omega) rfl).2;have H8:=((OL _ _ S9).lt O rfl).2;have GQ:(D5.map (·.2.2)).Pairwise Apt:=by
           have e3:D5.map (·.2.2)=D3.map (·.2.2):=by have e4:=A9 (List.map Prod.snd) (Ga.trans GK);rw[List.map_map,List.map_map] at e4;exact e4
           rw[e3];exact UP
          have Hn:=ae (S9.av GQ ph EL Gb zz);clear GQ;refine ai (i:=20) rfl (by kernel_rfl) λK ZT=>?_;go_simp;refine ZT _ _ (λh=>absurd rfl h) ?_;clear ZT K ZS
          (try simp only[Act.put,nzL])
          refine aT (by kernel_rfl) ?_ _;clear d0 d1 H8 S9;go_wp2;go_roundg (r4.1.l - 1 - j3);case measure=>have:=ex.out;omega
          case rel=>exact⟨j3+1,D5.set k3 (atD P.1 j3 zz,P.2),(atD P.1 j3 zz,P.2),by have:=ex.out;omega,by go_num,JN.trans F3,(Bn ph _).trans Ga,KM Ii,ex,Hn⟩
        ·go_wp2;go_roundg (D3.length - 1 - k3);case measure=>have:=DS.out;omega
         case rel=>exact⟨k3+1,D5,by have:=DS.out;omega,by go_num,F3.trans DS,Ga.trans GK,S8⟩
      {go_wp2;go_meet;exact⟨_,_,_,_,by omega,S7⟩}
  all_goals
   as_aux_lemma =>
    first
     |have e:s=0:=h
      subst e;obtain⟨r0,GM,F9⟩:=cZ (R:=D) (i:=0) (by omega);have H0:=ae GM;have Hq:r0.1.e.size<=5000:=(DQ r0 F9).nm;clear GM F9;go_wp2_with fail;refine aD (λV=>A V (N X 0 Z)=T (Y (T (N g 0 Z)) D.length c1)/\A V (N g 0 Z)=T (U r0.1.e)) 16 (by kernel_rfl) ?_;have l:=ae (G.aa br.drew);clear G;generalize ZM.drew=E at l ⊢;have hD0:0<D.length:=by omega
      have ZS:Hid (A E (N X 0 Z)=T (Y (T (N g 0 Z)) D.length c1)/\A E (N g 0 Z)=T (U r0.1.e)):=⟨l.ab.1,by have h:=(l.G (k:=0) (j:=0) H0 (by omega) rfl).1;simpa using h⟩
      iterate 8
       refine aH 0 (v:=?_) rfl rfl (by kernel_rfl) (λ_ _ _ h=>h) rfl ?_ ZS ?_;rotate_left
       ·(rintro wz ⟨s0,s1⟩;go_simp)
        (try with_reducible rfl)
       (try simp only[Act.put,nzL])
      refine aH 10 (v:=?_) rfl rfl (by kernel_rfl) (λ_ _ _ h=>h) rfl ?_ ZS ?_;rotate_left
      ·(rintro wz ⟨s0,s1⟩;go_simp)
       (try with_reducible rfl)
      (try simp only[Act.put,nzL])
      refine ai (i:=8) rfl (by kernel_rfl) λK ZT=>?_;go_simp;go_at_call 74;obtain⟨m1,F0⟩:∃m1:Nat,(61:Int)=(m1:Int):=⟨61,rfl⟩
      rw[F0];refine(ej ⟨#[110]⟩ m1 _ (by show 1*m1<=4000;omega) (by omega)).mono ?_;rintro e v6 ⟨t,rfl,ht,hw⟩;rw[hw];have Gc:t.size<=5000:=nD ht (by show 1*m1<=5000;omega);clear ht hw;refine ZT _ _ (λ_=>ZS) ?_;clear ZT K
      (try simp only[Act.put,nzL])
      refine mE (i:=9) (j:=11) rfl rfl (by kernel_rfl) (λK ZT=>?_) λK ZT=>?_
      focus
       go_simp;have A4:=(BS E).alloc ly (J #[U ⟨#[]⟩,U ⟨#[120,32,121]⟩,U r0.1.e,U t] 9);have HL:Hid ((E.alloc (J #[U ⟨#[]⟩,U ⟨#[120,32,121]⟩,U r0.1.e,U t] 9)).heap[z (B E)]?=T (J #[U ⟨#[]⟩,U ⟨#[120,32,121]⟩,U r0.1.e,U t] 9 (0,0))):=gM E _;have C:=ae (l.aa A4);have Ge:=l.lt;have Gv:=l.hX;have FU:z (B E)≠R:=by omega
       clear A4 ZS Ge Gv;generalize World.alloc E _=S at C HL ⊢;generalize (z (B E))=Hi at HL FU ⊢;have ZS:Hid (A S (N X 0 Z)=T (Y (T (N g 0 Z)) D.length c1)/\A S (N g 0 Z)=T (U r0.1.e)):=⟨C.ab.1,by have h:=(C.G (k:=0) (j:=0) H0 (by omega) rfl).1;simpa using h⟩
       refine ZT _ _ (λ_=>ZS) ?_;clear ZT K
       (try simp only[Act.put,nzL])
       refine ai (i:=11) rfl (by kernel_rfl) λK ZT=>?_;go_simp;go_at_call 40;refine(aw R _ 4 _ C.rd (by omega) (by omega) (by omega)).mono ?_;rintro e v5 ⟨z4,rfl,Fm,Hl,ZP,H⟩;obtain⟨m,rfl⟩:=AT Fm;have hm:m<4:=by omega
       have ZI:=ae (C.ac H ZP);have HL:=ae ((H.block Hi (ar HL) FU).trans HL);clear H ZP C ZS;have ZS:Hid (A v5 (N X 0 Z)=T (Y (T (N g 0 Z)) D.length c1)/\A v5 (N g 0 Z)=T (U r0.1.e)):=⟨ZI.ab.1,by have h:=(ZI.G (k:=0) (j:=0) H0 (by omega) rfl).1;simpa using h⟩
       refine ZT _ _ (λ_=>ZS) ?_;clear ZT K
       (try simp only[Act.put,nzL])
      rotate_left
      focus
       go_simp;go_at_call 40;refine(aw R _ 4 _ l.rd (by omega) (by omega) (by omega)).mono ?_;rintro e S ⟨z4,rfl,Fm,Hl,ZP,H⟩;obtain⟨m,rfl⟩:=AT Fm;have hm:m<4:=by omega
       have C:=ae (l.ac H ZP);clear H ZP l ZS;have ZS:Hid (A S (N X 0 Z)=T (Y (T (N g 0 Z)) D.length c1)/\A S (N g 0 Z)=T (U r0.1.e)):=⟨C.ab.1,by have h:=(C.G (k:=0) (j:=0) H0 (by omega) rfl).1;simpa using h⟩
       refine ZT _ _ (λ_=>ZS) ?_;clear ZT K
       (try simp only[Act.put,nzL])
       refine ai (i:=9) rfl (by kernel_rfl) λK ZT=>?_;go_simp;have A4:=(BS S).alloc ly (J #[U ⟨#[]⟩,U ⟨#[120,32,121]⟩,U r0.1.e,U t] 9);have HL:Hid ((S.alloc (J #[U ⟨#[]⟩,U ⟨#[120,32,121]⟩,U r0.1.e,U t] 9)).heap[z (B S)]?=T (J #[U ⟨#[]⟩,U ⟨#[120,32,121]⟩,U r0.1.e,U t] 9 (0,0))):=gM S _;have ZI:=ae (C.aa A4);have Ge:=C.lt;have Gv:=C.hX;have FU:z (B S)≠R:=by omega
       clear A4 ZS Ge Gv;generalize World.alloc S _=v5 at ZI HL ⊢;generalize (z (B S))=Hi at HL FU ⊢;have ZS:Hid (A v5 (N X 0 Z)=T (Y (T (N g 0 Z)) D.length c1)/\A v5 (N g 0 Z)=T (U r0.1.e)):=⟨ZI.ab.1,by have h:=(ZI.G (k:=0) (j:=0) H0 (by omega) rfl).1;simpa using h⟩
       refine ZT _ _ (λ_=>ZS) ?_;clear ZT K
       (try simp only[Act.put,nzL])
      all_goals
       obtain⟨zz,Ie,hzz⟩:=BD HL (by decide) (by decide) Hq Gc m hm
       iterate 4
        refine bH 12 rfl rfl (by kernel_rfl) λK ZT=>?_;go_simp;refine ZT _ _ (λ_=>ZS) ?_;clear ZT K
        (try simp only[Act.put,nzL])
       obtain⟨d0,d1⟩:=ZI.G (j:=0) ZO (by omega) rfl;rw[KL] at d0 d1;have O:=ZI.gb.2.1;have S9:=ae (ZI.am (j:=0) (u:=U zz) (r':=({ r.1 with e:=zz },r.2)) ZO (by omega) rfl ((ZI.row.sub r HM).same _ rfl rfl rfl rfl) (ZK.e Ie))
     |have e:s=1:=h
      subst e;go_wp2_with fail;refine aD (λV=>A V (N X 0 Z)=T (Y (T (N g 0 Z)) D.length c1)) 7 (by kernel_rfl) ?_;have l:=ae (G.aa br.drew);clear G;generalize ZM.drew=E at l ⊢;have ZS:=ae l.ab.1
      iterate 4
       refine aH 0 (v:=?_) rfl rfl (by kernel_rfl) (λ_ _ _ h=>h) rfl ?_ ZS ?_;rotate_left
       ·(intro wz s0;go_simp)
        (try with_reducible rfl)
       (try simp only[Act.put,nzL])
      refine ai (i:=4) rfl (by kernel_rfl) λK ZT=>?_;go_simp;go_at_call 40;refine(aw R _ 5 _ l.rd (by omega) (by omega) (by omega)).mono ?_;rintro e S ⟨z4,rfl,GJ,GS,ZP,H⟩;have C:=ae (l.ac H ZP);clear H ZP l ZS;have ZS:=ae C.ab.1;refine ZT _ _ (λ_=>ZS) ?_;clear ZT K
      (try simp only[Act.put,nzL])
      iterate 2
       refine bH 5 rfl rfl (by kernel_rfl) λK ZT=>?_;go_simp;refine ZT _ _ (λ_=>ZS) ?_;clear ZT K
       (try simp only[Act.put,nzL])
      obtain⟨d0,d1⟩:=C.G (j:=1) ZO (by omega) rfl;have O:=C.gb.2.1;have S9:=ae (C.am (j:=1) (u:=Q I z4) (r':=({ r.1 with H:=z4 },r.2)) ZO (by omega) rfl ((C.row.sub r HM).same _ rfl rfl rfl rfl) (ZK.H z4))
     |have e:s=2:=h
      subst e;go_wp2_with fail;refine aD (λV=>A V (N X 0 Z)=T (Y (T (N g 0 Z)) D.length c1)) 8 (by kernel_rfl) ?_;have l:=ae (G.aa br.drew);clear G;generalize ZM.drew=E at l ⊢;have ZS:=ae l.ab.1
      iterate 4
       refine aH 0 (v:=?_) rfl rfl (by kernel_rfl) (λ_ _ _ h=>h) rfl ?_ ZS ?_;rotate_left
       ·(intro wz s0;go_simp)
        (try with_reducible rfl)
       (try simp only[Act.put,nzL])
      refine ai (i:=4) rfl (by kernel_rfl) λK ZT=>?_;go_simp;go_at_call 40;refine(aw R _ 8 _ l.rd (by omega) (by omega) (by omega)).mono ?_;rintro e S ⟨z4,rfl,GJ,GS,ZP,H⟩;have C:=ae (l.ac H ZP);clear H ZP l ZS;have ZS:=ae C.ab.1;refine ZT _ _ (λ_=>ZS) ?_;clear ZT K
      (try simp only[Act.put,nzL])
      have GN:IntKind.i64.wrap (z4 - 1)=z4 - 1:=by rw[AI];omega
      iterate 3
       refine bH 5 rfl rfl (by kernel_rfl) λK ZT=>?_;go_simp;refine ZT _ _ (λ_=>ZS) ?_;clear ZT K
       (try simp only[Act.put,nzL])
      obtain⟨d0,d1⟩:=C.G (j:=2) ZO (by omega) rfl;have O:=C.gb.2.1;have S9:=ae (C.am (j:=2) (u:=Q I (z4 - 1)) (r':=({ r.1 with E:=z4 - 1 },r.2)) ZO (by omega) rfl ((C.row.sub r HM).same _ rfl rfl rfl rfl) (ZK.E _))
     |have e:s=3:=h
      subst e;go_wp2_with fail;refine aD (λV=>A V (N X 0 Z)=T (Y (T (N g 0 Z)) D.length c1)/\A V (N g (k*6+3) Z)=T (U r.1.y)) 12 (by kernel_rfl) ?_;have l:=ae (G.aa br.drew);clear G;generalize ZM.drew=E at l ⊢;have ZS:Hid (A E (N X 0 Z)=T (Y (T (N g 0 Z)) D.length c1)/\A E (N g (k*6+3) Z)=T (U r.1.y)):=⟨l.ab.1,(l.G (j:=3) ZO (by omega) rfl).1⟩
      have hsz:¬ 9223372036854775807<r.1.y.size+1:=by omega
      have Hj:(r.1.y++⟨#[120]⟩).size<=2000+KK:=by have e1:(⟨#[120]⟩:ByteArray).size=1:=rfl;rw[KO,e1];omega
      iterate 9
       refine aH 0 (v:=?_) rfl rfl (by kernel_rfl) (λ_ _ _ h=>h) rfl ?_ ZS ?_;rotate_left
       ·(rintro wz ⟨s0,s1⟩;go_simp)
        (try with_reducible rfl)
       (try simp only[Act.put,nzL])
      iterate 3
       refine bH 9 rfl rfl (by kernel_rfl) λK ZT=>?_;go_simp;refine ZT _ _ (λ_=>ZS) ?_;clear ZT K
       (try simp only[Act.put,nzL])
      obtain⟨d0,d1⟩:=l.G (j:=3) ZO (by omega) rfl;have O:=l.gb.2.1;have S9:=ae (l.am (j:=3) (u:=U (r.1.y++⟨#[120]⟩)) (r':=({ r.1 with y:=r.1.y++⟨#[120]⟩ },r.2)) ZO (by omega) rfl ((l.row.sub r HM).same _ rfl rfl rfl rfl) (ZK.y Hj))
     |have e:s=4:=h
      subst e;go_wp2_with fail;refine aD (λV=>A V (N X 0 Z)=T (Y (T (N g 0 Z)) D.length c1)) 9 (by kernel_rfl) ?_;have l:=ae (G.aa br.drew);clear G;generalize ZM.drew=E at l ⊢;have ZS:=ae l.ab.1
      iterate 4
       refine aH 0 (v:=?_) rfl rfl (by kernel_rfl) (λ_ _ _ h=>h) rfl ?_ ZS ?_;rotate_left
       ·(intro wz s0;go_simp)
        (try with_reducible rfl)
       (try simp only[Act.put,nzL])
      refine ai (i:=4) rfl (by kernel_rfl) λK ZT=>?_;go_simp;go_at_call 40;refine(aw R _ 2 _ l.rd (by omega) (by omega) (by omega)).mono ?_;rintro e S ⟨z4,rfl,GJ,GS,ZP,H⟩;have C:=ae (l.ac H ZP);clear H ZP l ZS;have ZS:=ae C.ab.1;refine ZT _ _ (λ_=>ZS) ?_;clear ZT K
      (try simp only[Act.put,nzL])
      have GN:IntKind.i64.wrap (2000+z4)=2000+z4:=by rw[AI];omega
      refine ai (i:=5) rfl (by kernel_rfl) λK ZT=>?_;go_simp;refine ZT _ _ (λ_=>ZS) ?_;clear ZT K
      (try simp only[Act.put,nzL])
      obtain⟨m0,F9⟩:∃m0:Nat,2000+z4=(m0:Int):=⟨(2000+z4).toNat,by omega⟩
      rw[F9];refine ai (i:=6) rfl (by kernel_rfl) λK ZT=>?_;go_simp;go_at_call 74;refine(ej ⟨#[116]⟩ m0 _ (by show 1*m0<=4000;omega) (by omega)).mono ?_;rintro e v6 ⟨t,rfl,ht,hw⟩;rw[hw];have Gc:t.size<=2000+KK:=nD ht (by show 1*m0<=2000+KK;omega);clear ht hw GN;refine ZT _ _ (λ_=>ZS) ?_;clear ZT K
      (try simp only[Act.put,nzL])
      iterate 2
       refine bH 7 rfl rfl (by kernel_rfl) λK ZT=>?_;go_simp;refine ZT _ _ (λ_=>ZS) ?_;clear ZT K
       (try simp only[Act.put,nzL])
      obtain⟨d0,d1⟩:=C.G (j:=3) ZO (by omega) rfl;have O:=C.gb.2.1;have S9:=ae (C.am (j:=3) (u:=U t) (r':=({ r.1 with y:=t },r.2)) ZO (by omega) rfl ((C.row.sub r HM).same _ rfl rfl rfl rfl) (ZK.y Gc))
     |have e:s=5:=h
      subst e;obtain⟨⟨ga,ca,ea⟩,-⟩:=mv.out r HM;have EA:=ae ea;clear ea;go_wp2_with fail;refine aD (λV=>A V (N X 0 Z)=T (Y (T (N g 0 Z)) D.length c1)/\A V (N g (k*6+4) Z)=T (Y (T (N ga 0 Z)) r.1.m ca)) 13 (by kernel_rfl) ?_;have l:=ae (G.aa br.drew);clear G;generalize ZM.drew=E at l ⊢;have ZS:Hid (A E (N X 0 Z)=T (Y (T (N g 0 Z)) D.length c1)/\A E (N g (k*6+4) Z)=T (Y (T (N ga 0 Z)) r.1.m ca)):=⟨l.ab.1,(l.G (j:=4) ZO (by omega) (by rw[<-EA.out];rfl)).1⟩
      iterate 10
       refine aH 0 (v:=?_) rfl rfl (by kernel_rfl) (λ_ _ _ h=>h) rfl ?_ ZS ?_;rotate_left
       ·(rintro wz ⟨s0,s1⟩;go_simp)
        (try with_reducible rfl)
       (try simp only[Act.put,nzL])
      refine ai (i:=10) rfl (by kernel_rfl) λK ZT=>?_;go_simp;go_at_call 96;refine(ze (l.row.sub r HM) EA l.rd (by omega) FZ (by omega)).mono ?_;rintro e S ⟨L4,g4,c4,rfl,GH,-,Hp,GE,q4,hq4,ZP,H⟩;have C:=ae (l.ac H ZP);have GU:=l.lt;have I4:Hid (S.ownsRow (z (B w)+2) 151 3 (Y (T (N g4 0 Z)) L4.length c4) L4.length (bX (dm L4) L4.length)):=by show World.ownsRow _ _ _ _ _ _ _;rw[<-sT];exact aC GH (by omega)
      have T4:=ae GE;clear H ZP l ZS GH GE GU;have ZS:Hid (A S (N X 0 Z)=T (Y (T (N g 0 Z)) D.length c1)/\A S (N g (k*6+4) Z)=T (Y (T (N ga 0 Z)) r.1.m ca)):=⟨C.ab.1,(C.G (j:=4) ZO (by omega) (by rw[<-EA.out];rfl)).1⟩
      refine ZT _ _ (λ_=>ZS) ?_;clear ZT K
      (try simp only[Act.put,nzL])
      iterate 2
       refine bH 11 rfl rfl (by kernel_rfl) λK ZT=>?_;go_simp;refine ZT _ _ (λ_=>ZS) ?_;clear ZT K
       (try simp only[Act.put,nzL])
      have d0:=ZS.2;have d1:=(C.G (j:=4) ZO (by omega) rfl).2;have O:=C.gb.2.1;have S9:=ae (C.am (j:=4) (u:=Y (T (N g4 0 Z)) L4.length c4) (r':=({ r.1 with m:=L4.length,D:=dm L4 },Y (T (N g4 0 Z)) L4.length c4,r.2.2)) ZO (by omega) rfl ⟨I4,(C.row.sub r HM).av⟩ ⟨ZK.nm,ZK.tx,by show L4.length<=200+KK;omega,kf T4,ZK.ln,ZK.lsz⟩)
    all_goals
     refine bH 0 rfl rfl (by kernel_rfl) λK ZT=>?_;go_simp;refine ZT _ _ (λh=>absurd rfl h) ?_;clear ZT K ZS
     (try simp only[Act.put,nzL])
     refine aT (by kernel_rfl) ?_ _;clear d0 d1 O;go_wp2;go_meet;exact⟨_,_,_,_,by omega,S9⟩
 case rest =>
 clear G;obtain⟨a',c',q',D',Ir,S9⟩:=hcut;have bx:=S9.ab.1;have rs:=S9.rs;have r0:A wc (N (z (B w)+1) 0 Z)=T (Y Z 0 0):=by simp[World.cell?,rs]
 have f0:wc.frozen? (N (z (B w)+1) 0 Z)=ZA:=by simp[World.frozen?,rs]
 have l0:=ar rs;have FN:=ae (S9.fin (by omega) Ir);clear rs;go_wp2;exact bp (v:=ZG #[Y a' D'.length c']) (by simp[results,results66,go_sem,r0]) rfl FN.out
