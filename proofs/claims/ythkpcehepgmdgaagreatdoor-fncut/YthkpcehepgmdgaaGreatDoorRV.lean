import Derived.Test.YthkpcehepgmdgaaGreatDoorRQ
import Derived.Test.YthkpcehepgmdgaaGreatDoorTA
import Derived.Test.YthkpcehepgmdgaaGreatDoorRC
set_option maxRecDepth 100000
set_option maxHeartbeats 40000000
open Go renaming Addr.mk->Q,Value.slice->Z,Value.string->U,Value.int->J,Value.bool->ZC,Value.agg->ZH,Obj.cells->N,IntKind.i64->I,World->G,TypeId->ZI,World.ownsRow->ZX,World.alloc->ZU,World.cell?->ZV,World.frozen?->ZW
open Option renaming none->Y,some->T
open Bool renaming false->ZB,true->ZF
open List renaming length->ZT
namespace Go.Proofs.YthkpcehepgmdgaaGreatDoor.Vp
open Tryz RowKit Ca
variable {w W:G}{n b m R:Nat}{t:ZI}
theorem Fz:∃i:TypeInfo,Tryz.prog.info? 68=T i/\i.zero=T (ZH #[U ⟨#[]⟩,ZC ZB,ZC ZB,J I 0])/\i.size=4/\i.bytes=32:=KQ kJ
theorem lS{base size:Nat}{e:ZI}{cs:Array Value}(hb:base<=w.heap.size)(f:n<=maxLen)(b:cs.size=n*size):(w.alloc (N cs e)).ownsRow base e size (Z (T (Q w.heap.size 0 Y)) n n) n cs.toList :=
 ⟨by simpa using b,.inr ⟨w.heap.size,n,cs,rfl,hb,nD w _,j6 _,f,b,by rw[MW];simp[b]⟩⟩
theorem AK (f:Nat->Link)(h:m<=n):(bq f n).take (m*4)=bq f m:=by
 refine OD λj=>?_;rw[UO];have hn:=eE f n;have hm:=eE f m;by_cases b:j<m*4
 ·have e:j=j / 4*4+j % 4:=by omega
  rw[hU b,e,fe f (by omega) _ (PE _ (by omega)),fe f (by omega) _ (PE _ (by omega))]
 {rw[eT b,LJ (by omega)]}
theorem DG{g c:Nat}{f:Nat->Link}(h:ZX w b 68 4 (Z (T (Q g 0 Y)) n c) n (bq f n))(l:m<=n):ZX w b 68 4 (Z (T (Q g 0 Y)) m c) m (bq f m):=by
 refine⟨eE f m,?_⟩;rcases h.2 with ⟨i,_⟩|⟨g',cap,j,i,hb,o,hc,p,q,r⟩
 {cases i}
 ·cases i
  refine .inr ⟨g,c,j,rfl,hb,o,by omega,p,q,?_⟩;rw[<-AK f l,<-r,List.take_take,ND (by omega)]
theorem uL (f:Nat->Link)(n:Nat)(y:Link):bq f n++dt y=bq (λi=>if i=n then y else f i) (n+1):=by
 unfold bq;rw[LP,AI,IH];congr 1;{congr 1;refine T0 λi hi=>?_;have:=KT.1 hi;rw[eT (by omega)]};{simp}
theorem DJ{l g f i:Int}{fz:Nat × Nat}(h:w.heap[b]?=T (N #[J I l,J I g,J I f,J I i] t fz))(k:Nat)(m:k<4):∃z,ZV w (Q b k Y)=T (J I z):=by
 match k,m with
 |0,_=>exact⟨l,by simp[World.cell?,h]⟩
 |1,_=>exact⟨g,by simp[World.cell?,h]⟩
 |2,_=>exact⟨f,by simp[World.cell?,h]⟩
 |3,_=>exact⟨i,by simp[World.cell?,h]⟩
 |j+4,h5=>exact absurd h5 (by omega)
def mS (W:G)(b:Nat):Nat:=match ZV W (Q b 5 Y) with
 |some (Z _ n _)=>n
 |_=>0
theorem LBx.len{c:Nat}{g j l i f:Value}{a:Option Addr}(h:LBx W b g j l i f (Z a n c)):mS W b=n:=by unfold mS;rw[h.cells.2.2.2.2.2]
theorem pS (ZO:Nat)(hNN:200<=ZO/\ZO<=299)(ZK:G)(R p x g c n:Nat)(f:Nat->Link)(nm tx:ByteArray)(kd ZQ:Int)(ZS:Option Addr)(ZP c4:Nat)(w:G)(hO:Only R ZK w)(hR:R<ZK.heap.size)(hb:ZK.heap.size<=x)(hbw:x<=w.heap.size)(hr:Rd w R p)(hp:p<=50000)(DE:ZX w x 68 4 (Z (T (Q g 0 Y)) n c) n (bq f n))(hn:n<=ZO)(Fd:∀j,j<n->(f j).e.size<=5000):Calls Tryz.prog 55 #[.pointer (T (Q R 0 Y)),ZH #[U nm,J I kd,J I ZQ,U tx,Z ZS ZP c4,Z (T (Q g 0 Y)) n c]] w λe w'=>DL ZO ZK w R x g (U nm) (J I kd) (J I ZQ) (U tx) (Z ZS ZP c4) (p+10) e w':=by
 have X:=ae (Fw (v0:=U nm) (v1:=J I kd) (v2:=J I ZQ) (v3:=U tx) (v4:=Z ZS ZP c4) hO hR hb hbw hr DE Fd);obtain⟨Bk,hi,Fm,DS,GS⟩:=Fz;clear hO hR hb hbw hr DE Fd;obtain⟨-,-,-,-,-,ZL⟩:=X.bx.cells;have P:=X.bx.lt;by_cases hz:n=0
 ·subst hz;go_enter func55,ntmps55;go_wp2_with fail;generalize World.alloc (World.alloc w _) _=W0 at X ZL P ⊢;clear ZL P;refine(dL R _ _ X.rd (by omega)).mono ?_;rintro e w1 ⟨ln,rfl,Hk,aq,ex⟩;have L1:=ae (X.ac ex aq);clear ex aq X;go_wp2_with fail;refine(ar R _ 2 _ L1.rd (by omega) (by omega) (by omega)).mono ?_;rintro e O ⟨z,rfl,qr,th,la,ld⟩;have A:=ae (L1.ac ld la);clear ld la L1;obtain⟨bh,Hl⟩:∃b:Bool,(z=0/\b=ZF)∨(z=1/\b=ZB):=by rcases(show z=0∨z=1 by omega) with h|h<;>simp[h]
  have A3:=(q9 O).alloc ly (N #[U ln,ZC ZB,ZC bh,J I 0] 68);have h2:=A.lt;have h3:=A.hbw;have O3:(ZU O (N #[U ln,ZC ZB,ZC bh,J I 0] 68)).ownsRow x 68 4 (Z (T (Q O.heap.size 0 Y)) 1 1) 1 (bq (λ_=>⟨ln,ZB,bh,0⟩) 1):=lS (cs:=#[U ln,ZC ZB,ZC bh,J I 0]) (by omega) (by unfold maxLen;omega) rfl;have o:=ae ((A.aa A3).setB (pQ _ _) O3 (.inr (by omega)) (λj _=>by show ln.size<=5000;omega));obtain⟨-,-,-,-,-,ZL⟩:=A.bx.cells;have bz:=A.bx.fz 5;have P:=A.bx.lt;rw[World.setCell_alloc_past _ _ _ _ P] at o;clear A3 O3;rcases Hl with ⟨rfl,rfl⟩|⟨rfl,rfl⟩
  all_goals
   go_upto_region 3 with fail;generalize World.alloc (World.setCell O _ _) _=W3 at o ⊢;clear ZL bz P;obtain⟨b0,b1,b2,b3,b4,ZL⟩:=o.bx.cells;obtain⟨r0,r1,r2,r3,r4,r5⟩:=o.rs.cells;obtain⟨z0,z1,z2,z3,z4,z5⟩:=al6 o.rs.fz;have P:=o.bx.lt;have lr:=o.rs.lt;have FN:=ae (o.fin (ZO:=ZO) (ZN:=p+10) (by omega) (by omega) (U nm) (J I kd) (J I ZQ) (U tx) (Z ZS ZP c4) (Z (T (Q O.heap.size 0 Y)) 1 1));have FB:=ae (o.rs.six (U nm) (J I kd) (J I ZQ) (U tx) (Z ZS ZP c4) (Z (T (Q O.heap.size 0 Y)) 1 1));go_wp2;generalize World.setCell (World.setCell (World.setCell (World.setCell (World.setCell (World.setCell W3 _ _) _ _) _ _) _ _) _ _) _ _=V at FN FB ⊢;obtain⟨x0,x1,x2,x3,x4,x5⟩:=FB.cells;exact bp (v:=ZH #[U nm,J I kd,J I ZQ,U tx,Z ZS ZP c4,Z (T (Q O.heap.size 0 Y)) 1 1]) (by simp[results,results55,go_sem,x0,x1,x2,x3,x4,x5]) rfl FN.out
 have nz:¬ ((n:Int)=0):=by omega
 go_enter func55,ntmps55;go_wp2_with fail;generalize World.alloc (World.alloc w _) _=W0 at X ZL P ⊢;refine(ar R _ (n:Int) _ X.rd (by omega) (by omega) (by omega)).mono ?_;rintro e w1 ⟨z,rfl,qr,th,aq,ex⟩;obtain⟨k,rfl⟩:=p9 qr;have E:k<n:=by omega
 have L1:=ae (X.ac ex aq);clear ex aq X ZL P qr th;go_wp2_with fail;refine(ar R _ 7 _ L1.rd (by omega) (by omega) (by omega)).mono ?_;rintro e O ⟨s,rfl,hs0,hs1,la,ld⟩;have A:=ae (L1.ac ld la);clear ld la L1;have hn1:=A.nm k E;have SB:Hid (∀V:G,LBx V w.heap.size (U nm) (J I kd) (J I ZQ) (U tx) (Z ZS ZP c4) (Z (T (Q g 0 Y)) n c)->ZV V (Q w.heap.size 5 Y)=T (Z (T (Q g 0 Y)) n c)):=λV h=>h.cells.2.2.2.2.2;go_upto_block 0 with fail;go_cut [] (λwx=>∃(q' W H ZJ:Nat) (f':Nat->Link),q'<=p+10/\H<=ZO+1/\Hid (LStD ZK w R x g (U nm) (J I kd) (J I ZQ) (U tx) (Z ZS ZP c4) wx q' W H ZJ f'));case rest =>clear A SB hn1;obtain⟨q',W,H,ZJ,f',hq',Hm,l⟩:=hcut;go_upto_region 21 with fail;obtain⟨b0,b1,b2,b3,b4,ZL⟩:=l.bx.cells;obtain⟨r0,r1,r2,r3,r4,r5⟩:=l.rs.cells;obtain⟨z0,z1,z2,z3,z4,z5⟩:=al6 l.rs.fz;have P:=l.bx.lt;have lr:=l.rs.lt;have FN:=ae (l.fin (ZO:=ZO) (ZN:=p+10) (by omega) (by omega) (U nm) (J I kd) (J I ZQ) (U tx) (Z ZS ZP c4) (Z (T (Q W 0 Y)) H ZJ));have FB:=ae (l.rs.six (U nm) (J I kd) (J I ZQ) (U tx) (Z ZS ZP c4) (Z (T (Q W 0 Y)) H ZJ));go_wp2;generalize World.setCell (World.setCell (World.setCell (World.setCell (World.setCell (World.setCell wc _ _) _ _) _ _) _ _) _ _) _ _=V at FN FB ⊢;obtain⟨x0,x1,x2,x3,x4,x5⟩:=FB.cells;exact bp (v:=ZH #[U nm,J I kd,J I ZQ,U tx,Z ZS ZP c4,Z (T (Q W 0 Y)) H ZJ]) (by simp[results,results55,go_sem,x0,x1,x2,x3,x4,x5]) rfl FN.out
 rcases(show(s=0∨s=1∨s=2∨s=3)∨s=4∨s=5∨s=6 by omega) with (rfl|rfl|rfl|rfl)|rfl|rfl|rfl;rotate_left 4
 ·obtain⟨m,rfl⟩:∃m,n=m+1:=⟨n - 1,by omega⟩
  have hcap:=ie A.y;obtain⟨-,-,-,-,-,ZL⟩:=A.bx.cells;have bz:=A.bx.fz 5;have P:=A.bx.lt;have o:=ae (A.setB (pQ _ _) (DG A.y (IS m)) (.inl rfl) (λj hj=>A.nm j (by omega)));have hw:IntKind.i64.wrap (((m+1:Nat):Int) - 1)=(m:Int):=by rw[nL];omega
  go_wp2;go_meet;exact⟨_,_,_,_,_,by omega,by omega,o⟩
 ·go_wp2_with fail;refine aD (λV=>ZV V (Q w.heap.size 5 Y)=T (Z (T (Q g 0 Y)) n c)) 10 (by kernel_rfl) ?_;have o:=ae (A.aa br.drew);clear A;generalize O.drew=t at o ⊢;have r:=ae (SB t o.bx);iterate 6
   refine aM 0 (v:=?_) rfl rfl (by kernel_rfl) (λ_ _ _ h=>h) rfl ?_ r ?_;rotate_left
   ·(intro wz s0;go_simp)
    (try with_reducible rfl)
   (try simp only[Act.put,nzL])
  have e0:=(cS (j:=0) o.y E (by omega) rfl).1;have e1:=(cS (j:=1) o.y E (by omega) rfl).1;have e2:=(cS (j:=2) o.y E (by omega) rfl).1;have e3:=(cS (j:=3) o.y E (by omega) rfl).1;rw[NO] at e0;refine ah (i:=6) rfl (by kernel_rfl) λK q=>?_;go_simp;refine q _ _ (λ_=>r) ?_;clear q K
  (try simp only[Act.put,nzL])
  clear e0 e1 e2 e3;refine ah (i:=7) rfl (by kernel_rfl) λK q=>?_;go_simp;have A4:=(q9 t).alloc ly (N #[U (f k).e,ZC (f k).ask,ZC (f k).has,J I (f k).L] 68);have l:=ae (o.aa A4);have HN:Hid (∀j u,(dt (f k))[j]?=T u->(ZU t (N #[U (f k).e,ZC (f k).ask,ZC (f k).has,J I (f k).L] 68)).cell? (((Q t.heap.size 0 Y):Addr).add j)=T u):=(lS (base:=0) (e:=68) (size:=4) (n:=1) (cs:=#[U (f k).e,ZC (f k).ask,ZC (f k).has,J I (f k).L]) (DN _) (by unfold maxLen;omega) rfl).cells rfl;have hl3:=o.lt;have hl3':=o.hbw;have hz3:(ZU t (N #[U (f k).e,ZC (f k).ask,ZC (f k).has,J I (f k).L] 68)).heap.size=t.heap.size+1:=by simp
  clear A4 r;have r:=ae (SB _ l.bx);refine q _ _ (λ_=>r) ?_;clear q K
  (try simp only[Act.put,nzL])
  refine ah (i:=8) rfl (by kernel_rfl) (λK q=>?_);refine step_append_lies _ rfl (.tmp 110) (.tmp 116) 42 rfl x 68 Bk (ZH #[U ⟨#[]⟩,ZC ZB,ZC ZB,J I 0]) 4 32 OB hi Fm DS GS rfl (by decide) (Z (T (Q g 0 Y)) n c) n (bq f n) (by simp[Act.eval]) l.y (Q t.heap.size 0 Y) 1 1 (dt (f k)) (by simp[Act.eval]) rfl HN.out (by simp[dt,Value.oneCell']) (by omega) (by unfold maxLen;omega) (by omega) (by omega) _ rfl ?_;intro g5 c5 S L C fd DQ;rw[uL f n (f k)] at L;have G5:=ae C;have O5:=ae L;have n8:g5=g∨w.heap.size<=g5:=by
   rcases fd with h|h;{exact .inl (by simpa[Value.ownBlock] using h.symm)};{exact .inr (by omega)}
  have BX:Hid (LBx S w.heap.size (U nm) (J I kd) (J I ZQ) (U tx) (Z ZS ZP c4) (Z (T (Q g 0 Y)) n c)):=l.bx.ab (C.block _ l.bx.lt (λe=>l.gne.1 (by simpa[Value.ownBlock] using e.symm)));clear L C fd DQ HN r;have r:=ae (SB S BX);refine q _ _ (λ_=>r) ?_;clear q K
  (try simp only[Act.put,nzL])
  refine ah (i:=9) rfl (by kernel_rfl) λK q=>?_;go_simp;refine q _ _ (λ_=>r) ?_;clear q K
  (try simp only[Act.put,nzL])
  have L6:=ae (l.setB G5 O5 n8 (λj hj=>by show(if j=n then f k else f j).e.size<=5000;split;exact hn1;exact l.nm j (by omega)));obtain⟨-,-,-,-,-,ZL⟩:=BX.cells;have bz:=BX.fz 5;have P:=BX.lt;refine ah (i:=10) rfl (by kernel_rfl) λK q=>?_;go_simp;refine q _ _ (λh=>absurd rfl h) ?_;clear q K r
  (try simp only[Act.put,nzL])
  refine bk (by kernel_rfl) ?_ _;clear ZL bz P BX G5 O5 l;go_wp2;go_meet;exact⟨_,_,_,_,_,by omega,by omega,L6⟩
 ·go_wp2_with fail;refine(ar R _ 2 _ A.rd (by omega) (by omega) (by omega)).mono ?_;rintro e w3 ⟨z,rfl,qr,th,Fn,Fk⟩;have o:=ae (A.ac Fk Fn);clear Fk Fn A hn1 SB E;have hw:IntKind.i64.wrap (200+z)=200+z:=by rw[nL];omega
  go_wp2_with fail;go_loopw [] (λwr=>∃(W H ZJ:Nat) (f':Nat->Link),H<=ZO+1/\Hid (LStD ZK w R x g (U nm) (J I kd) (J I ZQ) (U tx) (Z ZS ZP c4) wr (p+1+1+1) W H ZJ f')) (λwr=>300 - mS wr w.heap.size);case atStart=>exact⟨g,n,c,f,by omega,o⟩
  case round =>
   obtain⟨W,H,ZJ,f',Hm,l⟩:=hrel;obtain⟨-,-,-,-,-,ZL⟩:=l.bx.cells;have P:=l.bx.lt;have n9:=l.lt;have ph:=l.hbw;clear o;by_cases DQ:(H:Int)<200+z
   ·have B:=ae (l.aa ((q9 wr).alloc ly (N #[U ⟨#[97]⟩,ZC ZB,ZC ZF,J I 0] 68)));have HN:Hid (∀j u,(dt ⟨⟨#[97]⟩,ZB,ZF,0⟩)[j]?=T u->(ZU wr (N #[U ⟨#[97]⟩,ZC ZB,ZC ZF,J I 0] 68)).cell? (((Q wr.heap.size 0 Y):Addr).add j)=T u):=(lS (base:=0) (e:=68) (size:=4) (n:=1) (cs:=#[U ⟨#[97]⟩,ZC ZB,ZC ZF,J I 0]) (DN _) (by unfold maxLen;omega) rfl).cells rfl;have hz5:(ZU wr (N #[U ⟨#[97]⟩,ZC ZB,ZC ZF,J I 0] 68)).heap.size=wr.heap.size+1:=by simp
    go_wp2_with (at_builtin;refine wpList_append_lies _ rfl (.tmp 36) (.tmp 38) 42 rfl x 68 Bk (ZH #[U ⟨#[]⟩,ZC ZB,ZC ZB,J I 0]) 4 32 OB hi Fm DS GS rfl (by decide) (Z (T (Q W 0 Y)) H ZJ) H (bq f' H) (by simp[Act.eval]) B.y (Q wr.heap.size 0 Y) 1 1 (dt ⟨⟨#[97]⟩,ZB,ZF,0⟩) (by simp[Act.eval]) rfl HN.out (by simp[dt,Value.oneCell']) (by omega) (by unfold maxLen;omega) (by omega) (by omega) _ rfl ?_;intro g5 c5 S L C fd Hi;have BX:Hid (LBx S w.heap.size (U nm) (J I kd) (J I ZQ) (U tx) (Z ZS ZP c4) (Z (T (Q W 0 Y)) H ZJ)):=B.bx.ab (C.block _ B.bx.lt (λe=>B.gne.1 (by simpa[Value.ownBlock] using e.symm)));rw[uL f' H] at L;have n8:g5=W∨w.heap.size<=g5:=(by rcases fd with h|h;exact .inl (by simpa[Value.ownBlock] using h.symm);exact .inr (by omega));have L6:=ae (B.setB C L n8 (λj hj=>(by show(if j=H then (⟨⟨#[97]⟩,ZB,ZF,0⟩:Link) else f' j).e.size<=5000;split;exact(by decide);exact B.nm j (by omega))));obtain⟨-,-,-,-,-,q5⟩:=BX.cells;have qz:=BX.fz 5;have ql:=BX.lt;clear L C fd Hi n8);refine⟨⟨g5,H+1,c5,_,by omega,L6⟩,?_⟩;have e1:=l.bx.len;have e2:=L6.bx.len;show 300 - mS _ _<300 - mS _ _;rw[e1,e2];omega
   {skip;go_wp2;go_meet;exact⟨_,_,_,_,_,by omega,by omega,l⟩}
 focus
  go_wp2_with fail;refine aD (λV=>ZV V (Q w.heap.size 5 Y)=T (Z (T (Q g 0 Y)) n c)) 7 (by kernel_rfl) ?_;have o:=ae (A.aa br.drew);clear A;generalize O.drew=t at o ⊢;have r:=ae (SB t o.bx)
  iterate 4
   refine aM 0 (v:=?_) rfl rfl (by kernel_rfl) (λ_ _ _ h=>h) rfl ?_ r ?_;rotate_left
   ·(intro wz s0;go_simp)
    (try with_reducible rfl)
   (try simp only[Act.put,nzL])
  refine ah (i:=4) rfl (by kernel_rfl) λK q=>?_;go_simp;go_at_call 43;refine(dL R _ _ o.rd (by omega)).mono ?_;rintro e D ⟨ln,rfl,Hk,ZM,M⟩;have l:=ae (o.ac M ZM);clear M ZM o r;have r:=ae (SB D l.bx);refine q _ _ (λ_=>r) ?_;clear q K
  (try simp only[Act.put,nzL])
  iterate 2
   refine bY 5 rfl rfl (by kernel_rfl) λK q=>?_;go_simp;refine q _ _ (λ_=>r) ?_;clear q K
   (try simp only[Act.put,nzL])
  obtain⟨d0,d1⟩:=cS (j:=0) l.y E (by omega) rfl;rw[NO] at d0 d1;have gl:=l.gne.2.2.2;have B:Hid (LStD ZK w R x g (U nm) (J I kd) (J I ZQ) (U tx) (Z ZS ZP c4) (D.setCell (Q g (k*4) Y) (U ln)) _ g n c _):=l.setL (j:=0) (y:={ f k with e:=ln }) (u:=U ln) E (by omega) rfl (by show ln.size<=5000;omega)
 rotate_left;have M1:=True.intro;iterate 2
  focus
   go_wp2_with fail;first|(guard_hyp M1;refine aD (λV=>ZV V (Q w.heap.size 5 Y)=T (Z (T (Q g 0 Y)) n c)/\ZV V (Q g (k*4+1) Y)=T (ZC (f k).ask)) 12 (by kernel_rfl) ?_)|refine aD (λV=>ZV V (Q w.heap.size 5 Y)=T (Z (T (Q g 0 Y)) n c)/\ZV V (Q g (k*4+2) Y)=T (ZC (f k).has)) 12 (by kernel_rfl) ?_
   have l:=ae (A.aa br.drew);clear A;generalize O.drew=t at l ⊢;first|(guard_hyp M1;obtain⟨d0,d1⟩:=cS (j:=1) l.y E (by omega) rfl)|obtain⟨d0,d1⟩:=cS (j:=2) l.y E (by omega) rfl
   first|(guard_hyp M1;have r:Hid (ZV t (Q w.heap.size 5 Y)=T (Z (T (Q g 0 Y)) n c)/\ZV t (Q g (k*4+1) Y)=T (ZC (f k).ask)):=⟨SB t l.bx,d0⟩)|have r:Hid (ZV t (Q w.heap.size 5 Y)=T (Z (T (Q g 0 Y)) n c)/\ZV t (Q g (k*4+2) Y)=T (ZC (f k).has)):=⟨SB t l.bx,d0⟩
   clear d0
   iterate 10
    refine aM 0 (v:=?_) rfl rfl (by kernel_rfl) (λ_ _ _ h=>h) rfl ?_ r ?_;rotate_left
    ·(rintro wz ⟨s0,s1⟩;go_simp)
     (try with_reducible rfl)
    (try simp only[Act.put,nzL])
   iterate 2
    refine bY 10 rfl rfl (by kernel_rfl) λK q=>?_;go_simp;refine q _ _ (λ_=>r) ?_;clear q K
    (try simp only[Act.put,nzL])
   have d0:=r.2;have gl:=l.gne.2.2.2;first|(guard_hyp M1;have B:Hid (LStD ZK w R x g (U nm) (J I kd) (J I ZQ) (U tx) (Z ZS ZP c4) (t.setCell (Q g (k*4+1) Y) (ZC (!(f k).ask))) _ g n c _):=l.setL (j:=1) (y:={ f k with ask:=!(f k).ask }) (u:=ZC (!(f k).ask)) E (by omega) rfl hn1)|have B:Hid (LStD ZK w R x g (U nm) (J I kd) (J I ZQ) (U tx) (Z ZS ZP c4) (t.setCell (Q g (k*4+2) Y) (ZC (!(f k).has))) _ g n c _):=l.setL (j:=2) (y:={ f k with has:=!(f k).has }) (u:=ZC (!(f k).has)) E (by omega) rfl hn1
  rotate_left
 focus
  go_wp2_with fail;refine aD (λV=>ZV V (Q w.heap.size 5 Y)=T (Z (T (Q g 0 Y)) n c)/\ZV V (Q g (k*4+3) Y)=T (J I (f k).L)) 17 (by kernel_rfl) ?_;have o:=ae (A.aa br.drew);clear A;generalize O.drew=t at o ⊢;have r:Hid (ZV t (Q w.heap.size 5 Y)=T (Z (T (Q g 0 Y)) n c)/\ZV t (Q g (k*4+3) Y)=T (J I (f k).L)):=⟨SB t o.bx,(cS (j:=3) o.y E (by omega) rfl).1⟩
  iterate 10
   refine aM 0 (v:=?_) rfl rfl (by kernel_rfl) (λ_ _ _ h=>h) rfl ?_ r ?_;rotate_left
   ·(rintro wz ⟨s0,s1⟩;go_simp)
    (try with_reducible rfl)
   (try simp only[Act.put,nzL])
  refine aM 11 (v:=?_) rfl rfl (by kernel_rfl) (λ_ _ _ h=>h) rfl ?_ r ?_;rotate_left
  ·(rintro wz ⟨s0,s1⟩;go_simp)
   (try with_reducible rfl)
  (try simp only[Act.put,nzL])
  generalize IntKind.i64.wrap ((f k).L+1)=ax;refine oe (i:=10) (j:=12) rfl rfl (by kernel_rfl) (λK q=>?_) λK q=>?_
  focus
   go_simp;have A4:=(q9 t).alloc ly (N #[J I (-1),J I 0,J I ax,J I 400] 3);have HL:Hid ((ZU t (N #[J I (-1),J I 0,J I ax,J I 400] 3)).heap[t.heap.size]?=T (N #[J I (-1),J I 0,J I ax,J I 400] 3 (0,0))):=nD t _;have l:=ae (o.aa A4);have n9:=o.lt;have ph:=o.hbw;have ur:=o.hR;have sm:=o.hb;have ro:t.heap.size≠R:=by omega
   clear A4 r n9 ph ur sm;generalize World.alloc t _=D at l HL ⊢;generalize t.heap.size=At at HL ro ⊢;have r:Hid (ZV D (Q w.heap.size 5 Y)=T (Z (T (Q g 0 Y)) n c)/\ZV D (Q g (k*4+3) Y)=T (J I (f k).L)):=⟨SB D l.bx,(cS (j:=3) l.y E (by omega) rfl).1⟩
   refine q _ _ (λ_=>r) ?_;clear q K
   (try simp only[Act.put,nzL])
   refine ah (i:=12) rfl (by kernel_rfl) λK q=>?_;go_simp;go_at_call 13;refine(ar R _ 4 _ l.rd (by omega) (by omega) (by omega)).mono ?_;rintro e S ⟨z4,rfl,n7,Hj,ZM,M⟩;obtain⟨m,rfl⟩:=p9 n7;have hm:m<4:=by omega
   have B:=ae (l.ac M ZM);have HL:=ae ((M.block At (ag HL) ro).trans HL);clear M ZM l r;have r:Hid (ZV S (Q w.heap.size 5 Y)=T (Z (T (Q g 0 Y)) n c)/\ZV S (Q g (k*4+3) Y)=T (J I (f k).L)):=⟨SB S B.bx,(cS (j:=3) B.y E (by omega) rfl).1⟩
   refine q _ _ (λ_=>r) ?_;clear q K
   (try simp only[Act.put,nzL])
  rotate_left
  focus
   go_simp;go_at_call 13;refine(ar R _ 4 _ o.rd (by omega) (by omega) (by omega)).mono ?_;rintro e D ⟨z4,rfl,n7,Hj,ZM,M⟩;obtain⟨m,rfl⟩:=p9 n7;have hm:m<4:=by omega
   have l:=ae (o.ac M ZM);clear M ZM o r;have r:Hid (ZV D (Q w.heap.size 5 Y)=T (Z (T (Q g 0 Y)) n c)/\ZV D (Q g (k*4+3) Y)=T (J I (f k).L)):=⟨SB D l.bx,(cS (j:=3) l.y E (by omega) rfl).1⟩
   refine q _ _ (λ_=>r) ?_;clear q K
   (try simp only[Act.put,nzL])
   refine ah (i:=10) rfl (by kernel_rfl) λK q=>?_;go_simp;have A4:=(q9 D).alloc ly (N #[J I (-1),J I 0,J I ax,J I 400] 3);have HL:Hid ((ZU D (N #[J I (-1),J I 0,J I ax,J I 400] 3)).heap[D.heap.size]?=T (N #[J I (-1),J I 0,J I ax,J I 400] 3 (0,0))):=nD D _;have B:=ae (l.aa A4);have n9:=l.lt;have ph:=l.hbw;have ur:=l.hR;have sm:=l.hb;have ro:D.heap.size≠R:=by omega
   clear A4 r n9 ph ur sm;generalize World.alloc D _=S at B HL ⊢;generalize D.heap.size=At at HL ro ⊢;have r:Hid (ZV S (Q w.heap.size 5 Y)=T (Z (T (Q g 0 Y)) n c)/\ZV S (Q g (k*4+3) Y)=T (J I (f k).L)):=⟨SB S B.bx,(cS (j:=3) B.y E (by omega) rfl).1⟩
   refine q _ _ (λ_=>r) ?_;clear q K
   (try simp only[Act.put,nzL])
  all_goals
   have l:=B;clear B;obtain⟨zz,hzz⟩:=DJ HL m hm
   iterate 4
    refine bY 13 rfl rfl (by kernel_rfl) λK q=>?_;go_simp;refine q _ _ (λ_=>r) ?_;clear q K
    (try simp only[Act.put,nzL])
   have d0:=r.2;have d1:=(cS (j:=3) l.y E (by omega) rfl).2;have gl:=l.gne.2.2.2;have B:Hid (LStD ZK w R x g (U nm) (J I kd) (J I ZQ) (U tx) (Z ZS ZP c4) (S.setCell (Q g (k*4+3) Y) (J I zz)) _ g n c _):=l.setL (j:=3) (y:={ f k with L:=zz }) (u:=J I zz) E (by omega) rfl hn1
 all_goals
  refine bY 0 rfl rfl (by kernel_rfl) λK q=>?_;go_simp;refine q _ _ (λh=>absurd rfl h) ?_;clear q K r
  (try simp only[Act.put,nzL])
  refine bk (by kernel_rfl) ?_ _;clear d0 d1 gl l;go_wp2;go_meet;exact⟨_,_,_,_,_,by omega,by omega,B⟩
abbrev DC (V:G)(g q:Nat)(d:af)(ga ca gl cl:Nat):Prop:=ZV V (Q g q Y)=T (U d.e)/\ZV V (Q g (q+1) Y)=T (J I d.H)/\ZV V (Q g (q+2) Y)=T (J I d.E)/\ZV V (Q g (q+3) Y)=T (U d.B)/\ZV V (Q g (q+4) Y)=T (Z (T (Q ga 0 Y)) d.l ca)/\ZV V (Q g (q+5) Y)=T (Z (T (Q gl 0 Y)) d.f cl)
theorem DK{s0 s1 g f:ByteArray}{fz:Nat × Nat}(h:w.heap[b]?=T (N #[U s0,U s1,U g,U f] t fz))(m:s0.size<=5000)(h1:s1.size<=5000)(h2:g.size<=5000)(l:f.size<=5000)(k:Nat)(i:k<4):∃s:ByteArray,s.size<=5000/\ZV w (Q b k Y)=T (U s):=by
 match k,i with
 |0,_=>exact⟨s0,m,by simp[World.cell?,h]⟩
 |1,_=>exact⟨s1,h1,by simp[World.cell?,h]⟩
 |2,_=>exact⟨g,h2,by simp[World.cell?,h]⟩
 |3,_=>exact⟨f,l,by simp[World.cell?,h]⟩
 |j+4,h5=>exact absurd h5 (by omega)
theorem DP.up{q lo:Nat}{e:Ending}{w':G}(h:DP w R q lo n e w')(hn:n<=m):DP w R q lo m e w':=by obtain⟨L,g,c,h1,h2,f,b,i⟩:=h;exact⟨L,g,c,h1,h2,f,AD b hn,i⟩
theorem AM{K:Nat}{f p ga ca:Nat}{r:DR}(h:DSub W f r)(q:r.2.1=Z (T (Q ga 0 Y)) r.1.l ca)(hR:Rd W R p)(j:p<=20000)(i:FitK K r.1)(hK:K<=80):Calls Tryz.prog 54 #[.pointer (T (Q R 0 Y)),ZH #[Z (T (Q ga 0 Y)) r.1.l ca]] W λe o=>DP W R (p+1000) 0 (200+K+1) e o:=by
 by_cases g:r.1.l=0;{rw[g];exact(vQ R p ga ca W hR j).mono λ_ _ h=>h.up (by omega)}
 ·obtain⟨a,cap,e,m⟩:=h.ins;rw[q] at e;obtain⟨rfl,-,-⟩:=PV e;rcases m with h1|⟨b,off,n,l⟩
  {exact absurd h1 g}
  ·cases n
   exact mP (200+K) ⟨by omega,by omega⟩ R p ga ca r.1.l r.1.u W hR j l ⟨by omega,i.an⟩ i.asz
section
variable {K:Nat}{w W:G}{R X q c g k ga ca gl cl:Nat}{D:List DR}{r:DR}
theorem SpS.dc (h:SpS K w R X W q (T (Q g 0 Y)) c D)(b:D[k]?=T r)(f:r.2.1=Z (T (Q ga 0 Y)) r.1.l ca)(i:r.2.2=Z (T (Q gl 0 Y)) r.1.f cl):ZV W (Q X 0 Y)=T (Z (T (Q g 0 Y)) (ZT D) c)/\DC W g (k*6) r.1 ga ca gl cl :=
 ⟨h.M.1,(h.L (j:=0) b (by omega) rfl).1,(h.L (j:=1) b (by omega) rfl).1,(h.L (j:=2) b (by omega) rfl).1,(h.L (j:=3) b (by omega) rfl).1,(h.L (j:=4) b (by omega) (by rw[<-f];rfl)).1,(h.L (j:=5) b (by omega) (by rw[<-i];rfl)).1⟩
def FzC (W:G)(g i:Nat):Prop:=ZW W (Q g i Y)=ZB/\∃u,ZV W (Q g i Y)=T u
theorem SpS.fz6 (h:SpS K w R X W q (T (Q g 0 Y)) c D)(i:D[k]?=T r):FzC W g (k*6)/\FzC W g (k*6+1)/\FzC W g (k*6+2)/\FzC W g (k*6+3)/\FzC W g (k*6+4)/\FzC W g (k*6+5):=by
 have f:∀j,j<6->FzC W g (k*6+j):=λj b=>by have h:=h.L (j:=j) i b (gq (show j<(ddV r).length from b));exact⟨h.2,_,h.1⟩
 exact⟨f 0 (by omega),f 1 (by omega),f 2 (by omega),f 3 (by omega),f 4 (by omega),f 5 (by omega)⟩
end
theorem rM (Hm:Ek)(K0 ZL:Nat)(hK0:K0+1<=ZL)(hKK:ZL<=50)(R p:Nat)(a:Option Addr)(n cap:Nat)(f:Nat->af)(w:G)(hf:SlDeed w a n f)(Hz:∀i,i<n->FitK K0 (f i))(hn:n<=450+K0)(hR:Rd w R p)(hp:p<=19000):Calls Tryz.prog 26 #[.pointer (T (Q R 0 Y)),ZH #[Z a n cap]] w λe w'=>DAK ZL w R (p+1100) e w':=by
 have Ji:=ae Hm;clear Hm;have HF:=ae hf;have H9:=ae Hz;have HR:=ae hR;have Ij:=hR.lt;clear hf Hz hR;have A0:=ae (((q9 w).alloc ly (N #[Z a n cap] 25)).alloc (by simp) (N #[Z Y 0 0] 25));have Id:Hid ((ZU (ZU w (N #[Z a n cap] 25)) (N #[Z Y 0 0] 25)).heap[w.heap.size+1]?=T (N #[Z Y 0 0] 25 (0,0))):=by have h:=nD (ZU w (N #[Z a n cap] 25)) (N #[Z Y 0 0] 25);rw[show(ZU w (N #[Z a n cap] 25)).heap.size=w.heap.size+1 by simp] at h;exact h
 have aq:(ZU (ZU w (N #[Z a n cap] 25)) (N #[Z Y 0 0] 25)).heap.size=w.heap.size+2:=by simp
 go_enter func26,ntmps26;go_wp2_with fail;generalize World.alloc (World.alloc w _) _=W0 at A0 Id aq ⊢;refine(qX a n cap f _ (by omega) (HF.aa A0 ly) (λi hi=>((H9 i hi).d (by omega)).fits)).mono ?_;rintro e w1 ⟨a1,c1,D,rfl,hD,Fk,Il,qr⟩;have la:=ae Il;have I7:=ae hD.up;clear Il;have hl:ZT D=n:=by have:=CD List.length Fk;simpa using this
 have sm:Hid (∀r∈D,FitK K0 r.1):=λr hr=>by have hm:r.1∈D.map (·.1):=LA.2 ⟨r,hr,rfl⟩;rw[Fk] at hm;obtain⟨i,hi,e⟩:=LA.1 hm;rw[<-e];exact H9 i (KT.1 hi)
 have IW:=qr.size;have B2:=(q9 w1).alloc ly (N #[Z a1 (ZT D) c1] 25);have S1:Hid (SpS ZL w R w1.heap.size (ZU w1 (N #[Z a1 (ZT D) c1] 25)) p a1 c1 D):=by have O1:Only R w w1:=(Only.q A0).trans (Only.q (qr.mono (by omega)));exact⟨((HR.aa A0 ly).aa qr (by omega)).aa B2 ly,O1.trans (Only.q B2),(B2.block _ (by omega)).trans ((qr.block _ (by omega)).trans Id),nD w1 _,((hD.rw.aa B2 ly).mono (by omega)),λr hr=>(sm r hr).up (by omega),Ij,by omega,by omega⟩
 have hX:w.heap.size+2<=w1.heap.size:=by omega
 have hD9:ZT D<=450+K0:=by omega
 clear hD qr B2 IW aq A0 Id HF H9 HR Fk hl;go_upto_region 2 with fail;generalize World.alloc w1 _=W1 at S1 ⊢;generalize w1.heap.size=X at S1 hX ⊢;have bx:=S1.M.1;by_cases hz:ZT D=0
 ·obtain rfl:D=[]:=RC.1 hz;rw[J1] at bx;clear hz;go_wp2_with fail;refine(ar R _ 2 _ S1.rd (by omega) (by omega) (by omega)).mono ?_;rintro e w2 ⟨x,rfl,x0,x1,ro,ur⟩;have H:=ae (S1.ac ur ro);clear ur ro S1 bx;go_wp2_with fail;refine(ar R _ 3 _ H.rd (by omega) (by omega) (by omega)).mono ?_;rintro e M ⟨y,rfl,y0,y1,DE,Fd⟩;have l:=ae (H.ac Fd DE);clear Fd DE H;obtain⟨m,hm⟩:∃m:Nat,400*x+y=(m:Int):=⟨(400*x+y).toNat,by omega⟩
  have JH:IntKind.i64.wrap (400*x)=400*x:=by rw[nL];omega
  have JO:m<=450:=by omega
  have hw2:IntKind.i64.wrap (m:Int)=(m:Int):=by rw[nL];omega
  have hmk:=λw=>FP m (by omega) w;have rs:=l.rs;have r0:ZV M (Q (w.heap.size+1) 0 Y)=T (Z Y 0 0):=by simp[World.cell?,rs]
  have f0:ZW M (Q (w.heap.size+1) 0 Y)=ZB:=by simp[World.frozen?,rs]
  have l0:=ag rs;have FN:=ae (AE (m:=m) (ZN:=p+1100) l JO (by omega));clear rs;go_wp2;exact bp (v:=ZH #[Z (T (Q M.heap.size 0 Y)) m m]) (by simp[results,results26,go_sem,r0,l0]) rfl FN.out
 obtain⟨g,Jz,e⟩:=bV S1.row.y (by omega);obtain⟨rfl,-,-⟩:=PV e;clear e Jz;have nz:¬ ((ZT D:Int)=0):=by omega
 go_wp2_with fail;refine(ar R _ (ZT D:Int) _ S1.rd (by omega) (by omega) (by omega)).mono ?_;rintro e w2 ⟨z,rfl,aq,n9,ro,ur⟩;obtain⟨k,rfl⟩:=p9 aq;have hk:k<ZT D:=by omega
 have S0:=ae (S1.ac ur ro);clear ur ro S1 aq n9 bx;obtain⟨r,hr,hm⟩:=dJ hk;have ZK:=ae hr;have HM:=ae hm;clear hr hm;go_wp2_with fail;refine(ar R _ 13 _ S0.rd (by omega) (by omega) (by omega)).mono ?_;rintro e M ⟨s,rfl,hs0,IW,DE,Fd⟩;have H:=ae (S0.ac Fd DE);clear Fd DE S0;have Hu:=sm r HM;have P:=Hu.up (show K0<=ZL by omega);have htx:=Hu.tx;have JA:=Hu.ln;go_upto_block 0 with fail;go_cut [8,9,10,11,12] (λ_ _ _ _ _ wx=>∃(a':Option Addr) (c' q':Nat) (D':List DR),q'<=p+1100/\Hid (SpS ZL w R X wx q' a' c' D'));case first =>
  rcases(show(s=0∨s=1∨s=2∨s=3∨s=4∨s=5)∨(s=6∨s=7∨s=8)∨s=9∨s=10∨s=11∨s=12 by omega) with (h|h|h|h|h|h)|h6|rfl|rfl|rfl|rfl;rotate_left 6
  ·as_aux_lemma =>
    obtain⟨⟨ga,ca,ea⟩,gl,cl,el⟩:=la.out r HM;have EA:=ae ea;have EL:=ae el;clear ea el;rcases h6 with rfl|rfl|rfl;iterate 3
     ·go_wp2_with fail
      refine aD (λV=>ZV V (Q X 0 Y)=T (Z (T (Q g 0 Y)) (ZT D) c1)/\DC V g (k*6) r.1 ga ca gl cl) 11 (by kernel_rfl) ?_;have l:=ae (H.aa br.drew);clear H;generalize M.drew=E at l ⊢;have B:=ae (l.dc ZK EA EL)
      iterate 9
       refine aM 0 (v:=?_) rfl rfl (by kernel_rfl) (λ_ _ _ h=>h) rfl ?_ B ?_;rotate_left
       ·(rintro wz ⟨s0,s1,s2,s3,s4,s5,s6⟩;go_simp)
        (try with_reducible rfl)
       (try simp only[Act.put,nzL])
      refine ah (i:=9) rfl (by kernel_rfl) λK A=>?_;go_simp;go_at_call 55;refine(pS (200+K0) ⟨by omega,by omega⟩ w R _ (w.heap.size+2) gl cl r.1.f r.1.m r.1.e r.1.B r.1.H r.1.E (T (Q ga 0 Y)) r.1.l ca _ l.o Ij (by omega) (by have:=l.lt;omega) l.rd (by omega) (by rw[<-EL.out];exact(l.row.sub r HM).am) JA P.lsz).mono ?_;rintro e O ⟨g5,n5,c5,f5,rfl,Ib,Io,I9,⟨q5,hq5,Iq⟩,IY,fd⟩;obtain⟨kX,kg,Iz⟩:=l.kept HM EL fd;have ZJ:Hid (SpS ZL w R X (iQ O g k ({ r.1 with f:=n5,m:=f5 },Z (T (Q ga 0 Y)) r.1.l ca,Z (T (Q g5 0 Y)) n5 c5)) q5 (T (Q g 0 Y)) c1 _):=l.deed I7 ZK HM EL Iq IY fd _ ⟨l.actK HM EA EL fd,Ib⟩ ⟨P.nm,P.tx,P.an,P.asz,by show n5<=200+ZL;omega,I9⟩;have F4:Hid (∀j,j<6->ZW O (Q g (k*6+j) Y)=ZB):=λj hj=>(LF (a:=(Q g (k*6+j) Y)) kg).trans (l.L (j:=j) ZK hj (gq (show j<(ddV r).length from hj))).2;have DS:Hid (ZV O (Q X 0 Y)=T (Z (T (Q g 0 Y)) (ZT D) c1)/\DC O g (k*6) r.1 ga ca gl cl):=⟨(cq (a:=(Q X 0 Y)) kX).trans B.1,(cq (a:=(Q g (k*6) Y)) kg).trans B.2.1,(cq (a:=(Q g (k*6+1) Y)) kg).trans B.2.2.1,(cq (a:=(Q g (k*6+2) Y)) kg).trans B.2.2.2.1,(cq (a:=(Q g (k*6+3) Y)) kg).trans B.2.2.2.2.1,(cq (a:=(Q g (k*6+4) Y)) kg).trans B.2.2.2.2.2.1,(cq (a:=(Q g (k*6+5) Y)) kg).trans B.2.2.2.2.2.2⟩
      clear Iq IY fd Ib I9 kX kg B l;have B:=DS;clear DS;refine A _ _ (λ_=>B) ?_;clear A K
      (try simp only[Act.put,nzL])
      refine ah (i:=10) rfl (by kernel_rfl) λK A=>?_;go_simp;refine A _ _ (λ_=>B) ?_;clear A K
      (try simp only[Act.put,nzL])
      obtain⟨-,d0,d1,d2,d3,d4,d5⟩:=B.out;have y0:=F4.out 0 (by omega);have y1:=F4.out 1 (by omega);have y2:=F4.out 2 (by omega);have y3:=F4.out 3 (by omega);have y4:=F4.out 4 (by omega);have y5:=F4.out 5 (by omega);rw[NO] at y0;refine ah (i:=11) rfl (by kernel_rfl) λK A=>?_;go_simp;refine A _ _ (λh=>absurd rfl h) ?_;clear A K B
      (try simp only[Act.put,nzL])
      refine bk (by kernel_rfl) ?_ _;clear d0 d1 d2 d3 d4 d5 y0 y1 y2 y3 y4 y5;go_wp2;go_meet;exact⟨_,_,_,_,by omega,ZJ⟩
  ·skip;by_cases Jh:(0:Int)<(k:Int)
   ·obtain⟨m,rfl⟩:∃m,k=m+1:=⟨k - 1,by omega⟩
    have h1l:(1:Int)<(ZT D:Int):=by omega
    obtain⟨r1,IC,Hp⟩:=dJ (R:=D) (i:=m) (by omega);have Ir:=ae IC;have Ip:=ae Hp;clear IC Hp;obtain⟨⟨ga,ca,ea⟩,gl,cl,el⟩:=la.out r HM;obtain⟨⟨gb,cb,eb⟩,gm,cm,em⟩:=la.out r1 Ip;have EA:=ae ea;have EL:=ae el;have EB:=ae eb;have EM:=ae em;clear ea el eb em;have Jl:=((sm r1 Ip).up (show K0<=ZL by omega))
    have bx:=H.M.1;have C2:=ae (H.dc ZK EA EL).2;obtain⟨e0,e1,e2,e3,e4,e5⟩:=C2.out;have AB:=ae ((q9 M).alloc ly (N #[U r.1.e,J I r.1.H,J I r.1.E,U r.1.B,Z (T (Q ga 0 Y)) r.1.l ca,Z (T (Q gl 0 Y)) r.1.f cl] 44));have YB:=ae (nD M (N #[U r.1.e,J I r.1.H,J I r.1.E,U r.1.B,Z (T (Q ga 0 Y)) r.1.l ca,Z (T (Q gl 0 Y)) r.1.f cl] 44));have l:=ae (H.aa AB);have hwm:IntKind.i64.wrap (((m+1:Nat):Int) - 1)=(m:Int):=by rw[nL];omega
    have hwm2:IntKind.i64.wrap (m:Int)=(m:Int):=by rw[nL];omega
    have hml:m<ZT D:=by omega
    have JL:(m:Int)+1<(ZT D:Int):=by omega
    have hk2:(0:Int)<=(m:Int)+1:=by omega
    have JK:((m:Int)+1).toNat=m+1:=by omega
    go_upto_region 41 with fail;generalize World.alloc M _=v2 at l YB ⊢;have Ja:M.heap.size≠g:=by have:=H.gb.2.1;omega
    generalize M.heap.size=yb at YB Ja ⊢;clear bx e0 e1 e2 e3 e4 e5 C2 AB H;refine aD (λV=>ZV V (Q X 0 Y)=T (Z (T (Q g 0 Y)) (ZT D) c1)/\DC V g (m*6) r1.1 gb cb gm cm) 10 (by kernel_rfl) ?_;have C:=ae (l.aa br.drew);have Ii:Hid (v2.drew.heap[yb]?=T (N #[U r.1.e,J I r.1.H,J I r.1.E,U r.1.B,Z (T (Q ga 0 Y)) r.1.l ca,Z (T (Q gl 0 Y)) r.1.f cl] 44 (0,0))):=YB.out;clear l YB;generalize v2.drew=E at C Ii ⊢;have B:=ae (C.dc Ir EB EM);iterate 9
     refine aM 0 (v:=?_) rfl rfl (by kernel_rfl) (λ_ _ _ h=>h) rfl ?_ B ?_;rotate_left
     ·(rintro wz ⟨s0,s1,s2,s3,s4,s5,s6⟩;go_simp)
      (try with_reducible rfl)
     (try simp only[Act.put,nzL])
    refine ah (i:=9) rfl (by kernel_rfl) λK A=>?_;go_simp;refine A _ _ (λ_=>B) ?_;clear A K
    (try simp only[Act.put,nzL])
    obtain⟨⟨y0,u0,d0⟩,⟨y1,u1,d1⟩,⟨y2,u2,d2⟩,⟨y3,u3,d3⟩,⟨y4,u4,d4⟩,y5,u5,d5⟩:=C.fz6 ZK;have Iz:=C.gb.2.1;have ZJ:=ae (C.six ZK (r1.1,Z (T (Q gb 0 Y)) r1.1.l cb,Z (T (Q gm 0 Y)) r1.1.f cm) ((C.row.sub r1 Ip).form EB EM) Jl);have Ia:=ae ((fj E g (m+1) yb (r1.1,Z (T (Q gb 0 Y)) r1.1.l cb,Z (T (Q gm 0 Y)) r1.1.f cm) Ja).trans Ii);have T5:Hid (DSub (iQ E g (m+1) (r1.1,Z (T (Q gb 0 Y)) r1.1.l cb,Z (T (Q gm 0 Y)) r1.1.f cm)) (w.heap.size+2) (r.1,Z (T (Q ga 0 Y)) r.1.l ca,Z (T (Q gl 0 Y)) r.1.f cl)):=by obtain⟨cs,z,hg⟩:=C.gb.2.2.2;exact((C.row.sub r HM).form EA EL).six hg
    unfold iQ at ZJ Ia T5;refine ah (i:=10) rfl (by kernel_rfl) λK A=>?_;go_simp;refine A _ _ (λh=>absurd rfl h) ?_;clear A K B
    (try simp only[Act.put,nzL])
    refine bk (by kernel_rfl) ?_ _;clear d0 d1 d2 d3 d4 d5 y0 y1 y2 y3 y4 y5 Iz C Ii;go_upto_region 42 with fail;generalize World.setCell (World.setCell (World.setCell (World.setCell (World.setCell (World.setCell E _ _) _ _) _ _) _ _) _ _) _ _=v5 at ZJ Ia T5 ⊢;have ld:Hid ((D.set (m+1) (r1.1,Z (T (Q gb 0 Y)) r1.1.l cb,Z (T (Q gm 0 Y)) r1.1.f cm))[m]?=T r1):=by show _=_;rw[NL (by omega)];exact Ir
    have ZM:=ae (ZJ.six ld (r.1,Z (T (Q ga 0 Y)) r.1.l ca,Z (T (Q gl 0 Y)) r.1.f cl) T5 P);have bx:=ZJ.M.1;rw[KP] at bx;have L:=Ia.out;have q0:ZV v5 (Q yb 0 Y)=T (U r.1.e):=by simp[World.cell?,L]
    have q1:ZV v5 (Q yb 1 Y)=T (J I r.1.H):=by simp[World.cell?,L]
    have q2:ZV v5 (Q yb 2 Y)=T (J I r.1.E):=by simp[World.cell?,L]
    have q3:ZV v5 (Q yb 3 Y)=T (U r.1.B):=by simp[World.cell?,L]
    have q4:ZV v5 (Q yb 4 Y)=T (Z (T (Q ga 0 Y)) r.1.l ca):=by simp[World.cell?,L]
    have q5:ZV v5 (Q yb 5 Y)=T (Z (T (Q gl 0 Y)) r.1.f cl):=by simp[World.cell?,L]
    obtain⟨⟨y0,u0,d0⟩,⟨y1,u1,d1⟩,⟨y2,u2,d2⟩,⟨y3,u3,d3⟩,⟨y4,u4,d4⟩,y5,u5,d5⟩:=ZJ.fz6 ld;have gl5:=ZJ.gb.2.1;clear L ZJ;go_wp2;go_meet;exact⟨_,_,_,_,by omega,ZM⟩
   ·by_cases h1:(1:Int)<(ZT D:Int)
    iterate 2
     ·go_wp2
      go_meet;exact⟨_,_,_,_,by omega,H⟩
  ·as_aux_lemma =>
    have hcap:=ie H.row.y;obtain⟨Hn,hj,aq,n9,Ht⟩:=KQ fA;have JH:IntKind.i64.wrap ((k:Int)+1)=(k:Int)+1:=by rw[nL];omega
    have JL:(k:Int)+1<=(ZT D:Int):=by omega
    have JK:((k:Int)+1).toNat=k+1:=by omega
    have hkc:(k:Int)<=(c1:Int):=by omega
    have Jh:(0:Int)<=(k:Int)+1:=by omega
    obtain⟨A2,Jn,ID⟩:=yR (base:=w.heap.size+2) (g:=g) (c:=c1) hk (by omega);have Ju:=ae ID;clear ID;go_wp2_with fail;refine aD (λV=>ZV V (Q X 0 Y)=T (Z (T (Q g 0 Y)) (ZT D) c1)) 13 (by kernel_rfl) ?_;have l:=ae (H.aa br.drew);clear H;generalize M.drew=E at l ⊢;have B:=ae l.M.1;iterate 4
     refine aM 1 (v:=?_) rfl rfl (by kernel_rfl) (λ_ _ _ h=>h) rfl ?_ B ?_;rotate_left
     ·(intro wz s0;go_simp)
      (try with_reducible rfl)
     (try simp only[Act.put,nzL])
    iterate 5
     refine aM 6 (v:=?_) rfl rfl (by kernel_rfl) (λ_ _ _ h=>h) rfl ?_ B ?_;rotate_left
     ·(intro wz s0;go_simp)
      (try with_reducible rfl)
     (try simp only[Act.put,nzL])
    clear Jn;refine ah (i:=0) rfl (by kernel_rfl) λK A=>?_;go_simp;have IQ:=l.lt;have Js:=l.hX;have A4:=ae ((q9 E).alloc ly (N #[] 44));have O4:=ae (LK (base:=w.heap.size+2) (e:=44) (size:=6) E #[] 0 (by omega) (by unfold maxLen;omega) rfl);have C:=ae (l.aa A4);have DS:=ae C.M.1;refine A _ _ (λ_=>DS) ?_;clear A K
    (try simp only[Act.put,nzL])
    refine ah (i:=5) rfl (by kernel_rfl) (λK A=>?_);refine aQ rfl (.tmp 247) (.tmp 251) 23 rfl (w.heap.size+2) 44 Hn (ZH #[U ⟨#[]⟩,J I 0,J I 0,U ⟨#[]⟩,Z Y 0 0,Z Y 0 0]) 6 96 LX hj aq n9 Ht rfl (by decide) (Z (T (Q E.heap.size 0 Y)) 0 0) 0 [] (by simp[Act.eval]) O4.out (Q g 0 Y) k c1 ((D.take k).flatMap ddV) (by simp[Act.eval]) (by rw[fc ddV 6 (λ_=>rfl),LU,ND (by omega)]) (AF k C.row.y) (λu hu=>qI D la u (by obtain⟨ZP,h2,h3⟩:=MK.1 hu;exact MK.2 ⟨ZP,NI h2,h3⟩)) (by unfold maxLen;omega) (by omega) (by simp;omega) ?_;intro v5 w5 ph th Hy;simp only[E4,J2] at ph;have B5:=ae (bg A4 th (by simp) (λj e=>by simp[Value.ownBlock] at e;omega));have Ik:∀j,v5.ownBlock=T j->E.heap.size<=j:=λj e=>by
     rcases Hy with h|h;{rw[h] at e;simp[Value.ownBlock] at e;omega};{rw[h] at e;have:=GD e;simp at this;omega}
    have WB:=ae Ik;have O5:=ae ph;have ZJ:=ae (l.aa B5);have Iy:=ae ZJ.M.1;clear ph th Hy Ik C O4 A4 DS B;refine A _ _ (λ_=>Iy) ?_;clear A K
    (try simp only[Act.put,nzL])
    obtain⟨a5,c5,rfl⟩:=aF O5;refine ah (i:=11) rfl (by kernel_rfl) λK A=>?_;refine aQ rfl (.tmp 252) (.tmp 257) 23 rfl (w.heap.size+2) 44 Hn (ZH #[U ⟨#[]⟩,J I 0,J I 0,U ⟨#[]⟩,Z Y 0 0,Z Y 0 0]) 6 96 LX hj aq n9 Ht rfl (by decide) (Z a5 k c5) k ((D.take k).flatMap ddV) (by simp[Act.eval]) O5.out A2 (ZT D - (k+1)) (c1 - (k+1)) ((D.drop (k+1)).flatMap ddV) (by simp[Act.eval]) (by rw[fc ddV 6 (λ_=>rfl),MH]) (Ju _ ZJ.row.y) (λu hu=>qI D la u (by obtain⟨ZP,h2,h3⟩:=MK.1 hu;exact MK.2 ⟨ZP,List.mem_of_mem_drop h2,h3⟩)) (by unfold maxLen;omega) (by omega) (by have:=B5.size;omega) ?_;intro v6 w6 bt Bk _;have B6:=ae (bg B5 Bk (B5.size) (λj e=>WB j e));rw[<-IH] at bt;obtain⟨a6,c6,rfl⟩:=aF bt;obtain⟨D2,Ho⟩:∃D2,D2=D.take k++D.drop (k+1):=⟨_,rfl⟩
    have Fn:ZT D2=k+(ZT D - (k+1)):=by rw[Ho,gB,LU,MH,ND (by omega)]
    rw[<-Ho,<-Fn] at bt;rw[<-Fn];have ZM:=ae (l.aa B6);have Fm:∀ZP∈D2,ZP∈D:=λZP h2=>by rw[Ho] at h2;exact(n6.1 h2).elim NI List.mem_of_mem_drop
    have S7:=ae (l.box_ B6 bt (λZP h2=>ZM.row.sub ZP (Fm ZP h2)) (λZP h2=>ZM.aq ZP (Fm ZP h2)) (by omega));clear Ho;have Hl:=ae ZM.M;clear bt Bk Fm Fn ZJ O5 WB Iy;refine A _ _ (λ_=>Hl.1) ?_;clear A K
    (try simp only[Act.put,nzL])
    refine ah (i:=12) rfl (by kernel_rfl) λK A=>?_;go_simp;refine A _ _ (λ_=>Hl.1) ?_;clear A K
    (try simp only[Act.put,nzL])
    have d0:=Hl.1;have d1:=Hl.2;have JD:=ZM.lt;refine ah (i:=13) rfl (by kernel_rfl) λK A=>?_;go_simp;refine A _ _ (λh=>absurd rfl h) ?_;clear A K
    (try simp only[Act.put,nzL])
    refine bk (by kernel_rfl) ?_ _;clear d0 d1 JD l ZM;go_wp2;go_meet;exact⟨_,_,_,_,by omega,S7⟩
  ·as_aux_lemma =>
    go_wp2_with fail;refine(ar R _ 3 _ H.rd (by omega) (by omega) (by omega)).mono ?_;rintro e w4 ⟨z,rfl,z0,z1,ZQ,ZS⟩;have l:=ae (H.ac ZS ZQ);clear ZS ZQ H;obtain⟨m,hm⟩:∃m:Nat,60+z - 1=(m:Int):=⟨(60+z - 1).toNat,by omega⟩
    go_wp2_with fail;refine(Ji m _ (by omega)).mono ?_;rintro e w5 ⟨a5,n5,c5,f5,rfl,IL,Im,Io,IE⟩;have C:=ae (l.aa Im);have rs:=C.rs;have r0:ZV w5 (Q (w.heap.size+1) 0 Y)=T (Z Y 0 0):=by simp[World.cell?,rs]
    have f0:ZW w5 (Q (w.heap.size+1) 0 Y)=ZB:=by simp[World.frozen?,rs]
    have l0:=ag rs;have FN:=ae (l.other (ZN:=p+1100) Im IL Io IE (by omega));clear rs Im IL Io IE;go_wp2;try simp only[Exit.inBlock,Exit.then]
    exact bp (v:=ZH #[Z a5 n5 c5]) (by simp[results,results26,go_sem,r0]) rfl FN.out
  ·skip;have AB:=ae ((q9 M).alloc ly (N #[U ⟨#[117,110,117,115,101,100]⟩,J I 2,J I 0,U ⟨#[]⟩,Z Y 0 0,Z Y 0 0] 44));have FB:=ae (nD M (N #[U ⟨#[117,110,117,115,101,100]⟩,J I 2,J I 0,U ⟨#[]⟩,Z Y 0 0,Z Y 0 0] 44));have l:=ae (H.aa AB);have Is:w.heap.size+2<=M.heap.size:=by have:=H.lt;omega
   have IF:M.heap.size≠X:=by have:=H.lt;omega
   have IU:M.heap.size≠g:=by have:=H.gb.2.1;omega
   go_wp2_with fail;generalize World.alloc M _=v2 at l FB ⊢;generalize M.heap.size=fb at FB Is IF IU ⊢;clear AB H;go_loopg [10] (ZT D) (λgh i wr=>∃(k2 q2:Nat) (nm tx:ByteArray) (kd:Int),k2+gh=ZT D/\q2<=p+2+k2/\i=J I k2/\nm.size<=5000/\tx.size<=2000+K0/\Hid (SpS ZL w R X wr q2 (T (Q g 0 Y)) c1 D)/\Hid (wr.heap[fb]?=T (N #[U nm,J I kd,J I 0,U tx,Z Y 0 0,Z Y 0 0] 44 (0,0))));case atStart=>exact⟨0,_,_,_,_,by omega,by omega,rfl,by decide,DN _,l,FB⟩
   case round =>
    clear l FB;obtain⟨k2,q2,nm,tx,kd,hg2,hq2,rfl,IX,Jd,l,FB⟩:=hrel;have hwk:IntKind.i64.wrap ((k2:Int)+1)=(k2:Int)+1:=by rw[nL];omega
    go_upto_region 9 with fail;go_cut [41] (λJw wx=>∃(b1:Bool) (q3:Nat),Jw=ZC b1/\(b1=ZF->k2<ZT D)/\q3<=q2+1/\Hid (SpS ZL w R X wx q3 (T (Q g 0 Y)) c1 D)/\Hid (wx.heap[fb]?=T (N #[U nm,J I kd,J I 0,U tx,Z Y 0 0,Z Y 0 0] 44 (0,0))));case first =>
     by_cases Ih:(k2:Int)<(ZT D:Int)
     {go_wp2_with fail;refine(ar R _ 2 _ l.rd (by omega) (by omega) (by omega)).mono ?_;rintro e w4 ⟨z,rfl,z0,z1,ZQ,ZS⟩;have C:=ae (l.ac ZS ZQ);have DQ:=ae ((ZS.block fb (ag FB) (by omega)).trans FB);clear ZS ZQ;go_wp2;go_meet;exact⟨_,_,rfl,λ_=>by omega,by omega,C,DQ⟩};{go_wp2;go_meet;exact⟨_,_,rfl,λh=>by simp at h,by omega,l,FB⟩}
    case rest =>
    clear l FB;obtain⟨b1,q3,rfl,JM,hq3,l,FB⟩:=hcut;cases b1 with
    |true =>
     have Ih:k2<ZT D:=JM rfl;obtain⟨ZP,I6,Iw⟩:=dJ (R:=D) Ih;have ld:=ae I6;have IP:=(sm ZP Iw)
     clear I6 Iw;have bx:=l.M.1;have IJ:=(l.L (j:=1) ld (by omega) rfl).1;by_cases h3:ZP.1.H=3
     ·rw[h3] at IJ;have H3:=ae h3;clear h3;go_wp2;go_roundg (ZT D - 1 - k2);case measure=>omega
      case rel=>exact⟨k2+1,q3,nm,tx,kd,by omega,by omega,by go_num,IX,Jd,l,FB⟩
     ·have n3:(ZP.1.H == 3)=ZB:=by simpa using h3
      go_upto_region 12 with fail;clear bx IJ;refine aD (λV=>ZV V (Q X 0 Y)=T (Z (T (Q g 0 Y)) (ZT D) c1)/\ZV V (Q g (k2*6) Y)=T (U ZP.1.e)/\ZV V (Q g (k2*6+1) Y)=T (J I ZP.1.H)/\ZV V (Q g (k2*6+3) Y)=T (U ZP.1.B)) 19 (by kernel_rfl) ?_;have C:=ae (l.aa br.drew);have DQ:Hid (wc.drew.heap[fb]?=T (N #[U nm,J I kd,J I 0,U tx,Z Y 0 0,Z Y 0 0] 44 (0,0))):=FB.out;clear l FB;generalize wc.drew=E at C DQ ⊢;have B:Hid (ZV E (Q X 0 Y)=T (Z (T (Q g 0 Y)) (ZT D) c1)/\ZV E (Q g (k2*6) Y)=T (U ZP.1.e)/\ZV E (Q g (k2*6+1) Y)=T (J I ZP.1.H)/\ZV E (Q g (k2*6+3) Y)=T (U ZP.1.B)):=⟨C.M.1,by have h:=(C.L (j:=0) ld (by omega) rfl).1;rwa[NO] at h,(C.L (j:=1) ld (by omega) rfl).1,(C.L (j:=3) ld (by omega) rfl).1⟩
      iterate 19
       refine aM 0 (v:=?_) rfl rfl (by kernel_rfl) (λ_ _ _ h=>h) rfl ?_ B ?_;rotate_left
       ·(rintro wz ⟨s0,s1,s2,s3⟩;go_simp)
        (try with_reducible rfl)
       (try simp only[Act.put,nzL])
      have L:=DQ.out;have lf:=ag L;have q0:ZV E (Q fb 0 Y)=T (U nm):=by simp[World.cell?,L]
      have q1:ZV E (Q fb 1 Y)=T (J I kd):=by simp[World.cell?,L]
      have Jk:ZV E (Q fb 2 Y)=T (J I 0):=by simp[World.cell?,L]
      have Jo:ZV E (Q fb 3 Y)=T (U tx):=by simp[World.cell?,L]
      have q4:ZV E (Q fb 4 Y)=T (Z Y 0 0):=by simp[World.cell?,L]
      have q5:ZV E (Q fb 5 Y)=T (Z Y 0 0):=by simp[World.cell?,L]
      have z0:∀j,ZW E (Q fb j Y)=ZB:=λj=>by simp[World.frozen?,L]
      have ZJ:=ae (C.aside Is IF IU L (U ZP.1.e) (J I ZP.1.H) (J I 0) (U ZP.1.B) (Z Y 0 0) (Z Y 0 0));have Jv:=ae (LBx.six (W:=E) (b:=fb) L (U ZP.1.e) (J I ZP.1.H) (J I 0) (U ZP.1.B) (Z Y 0 0) (Z Y 0 0));clear L;refine ah (i:=19) rfl (by kernel_rfl) λK A=>?_;go_simp;refine A _ _ (λh=>absurd rfl h) ?_;clear A K B
      (try simp only[Act.put,nzL])
      refine bk (by kernel_rfl) ?_ _;clear q0 q1 Jk Jo q4 q5 z0 C DQ;go_wp2;go_roundg (ZT D - 1 - k2);case measure=>omega
      case rel=>exact⟨k2+1,q3,ZP.1.e,ZP.1.B,ZP.1.H,by omega,by omega,by go_num,IP.nm,IP.tx,ZJ,Jv⟩
    |false =>
     have L:=FB.out;have lf:=ag L;have e0:ZV wc (Q fb 0 Y)=T (U nm):=by simp[World.cell?,L]
     have e1:ZV wc (Q fb 1 Y)=T (J I kd):=by simp[World.cell?,L]
     have e2:ZV wc (Q fb 2 Y)=T (J I 0):=by simp[World.cell?,L]
     have e3:ZV wc (Q fb 3 Y)=T (U tx):=by simp[World.cell?,L]
     have e4:ZV wc (Q fb 4 Y)=T (Z Y 0 0):=by simp[World.cell?,L]
     have e5:ZV wc (Q fb 5 Y)=T (Z Y 0 0):=by simp[World.cell?,L]
     clear L;have bx:=l.M.1;have lx:=l.lt;have Js:=l.hX;obtain⟨Hn,hj,aq,n9,Ht⟩:=KQ fA;have A4:=ae ((q9 wc).alloc ly (N #[U nm,J I kd,J I 0,U tx,Z Y 0 0,Z Y 0 0] 44));have O4:Hid ((ZU wc (N #[U nm,J I kd,J I 0,U tx,Z Y 0 0,Z Y 0 0] 44)).ownsRow (w.heap.size+2) 44 6 (Z (T (Q wc.heap.size 0 Y)) 1 1) 1 [U nm,J I kd,J I 0,U tx,Z Y 0 0,Z Y 0 0]):=lS (cs:=#[U nm,J I kd,J I 0,U tx,Z Y 0 0,Z Y 0 0]) (by omega) (by unfold maxLen;omega) rfl;have C:=ae (l.aa A4);have JG:=C.M.1;have JF:=C.M.2;go_wp2_with (at_builtin;refine DD _ rfl (.tmp 71) (.tmp 73) 23 rfl (w.heap.size+2) 44 Hn (ZH #[U ⟨#[]⟩,J I 0,J I 0,U ⟨#[]⟩,Z Y 0 0,Z Y 0 0]) 6 96 LX hj aq n9 Ht rfl (by decide) (Z (T (Q wc.heap.size 0 Y)) 1 1) 1 [U nm,J I kd,J I 0,U tx,Z Y 0 0,Z Y 0 0] (by simp[Act.eval]) O4.out (Q g 0 Y) (ZT D) c1 (D.flatMap ddV) (by simp[Act.eval]) (fc ddV 6 (λ_=>rfl) D) (λj u hu=>C.row.y.cells (g:=g) rfl j u hu) (qI D la) (by unfold maxLen;omega) (by omega) (by simp;omega) ?_;intro v5 w5 GS Hq Jb;obtain⟨g5,c5,rfl⟩:=bV GS (by omega);have B5:=ae (bg A4 Hq (by simp) (λj e=>by simp[Value.ownBlock] at e;omega));have O5:=ae GS;have ZJ:=ae (l.aa B5);obtain⟨Jm,Jf⟩:=ZJ.M;have JI:=ZJ.lt;clear GS Hq Jb);obtain⟨D3,n7⟩:∃D3,D3=lQ nm tx kd::D:=⟨_,rfl⟩
     have H7:ZT D3=1+ZT D:=by rw[n7,p6];omega
     have Hx:ZX w5 (w.heap.size+2) 44 6 (Z (T (Q g5 0 Y)) (ZT D3) c5) (ZT D3) (D3.flatMap ddV):=by rw[H7,n7,LI];exact O5
     have ZM:=ae (l.box_ B5 Hx (λr6 h6=>by
      rw[n7] at h6;rcases BS.1 h6 with rfl|h6;{exact Dv _ _ _ _ _}
      ·exact ZJ.row.sub r6 h6) (λr6 h6=>by
      rw[n7] at h6;rcases BS.1 h6 with rfl|h6;{exact uH kd IX (by omega)}
      ·exact ZJ.aq r6 h6) (by omega))
     have UP:Hid ((D3.map (·.2.2)).Pairwise Apt):=by rw[n7];exact Gt I7 nm tx kd
     have hn3:ZT D3<=450+ZL:=by omega
     rw[<-H7];generalize World.setCell w5 _ _=v6 at ZM ⊢;clear Hx n7 H7 O5 B5 ZJ C A4 O4 l FB Jm Jf JI JG JF bx lx e0 e1 e2 e3 e4 e5;go_loopg [11,12] (ZT D3) (λgh i _ wr=>∃(k3:Nat) (D4:List DR),k3+gh=ZT D3/\i=J I k3/\Hid (ZT D4=ZT D3)/\Hid (D4.map (·.2)=D3.map (·.2))/\Hid (SpS ZL w R X wr q3 (T (Q g5 0 Y)) c5 D4));case atStart=>exact⟨0,D3,by omega,rfl,rfl,rfl,ZM⟩
     case round =>
      clear ZM;obtain⟨k3,D4,hg3,rfl,At,IM,S7⟩:=hrel;have Jg:ZT D4<=450+ZL:=by have:=At.out;omega
      have hwk3:IntKind.i64.wrap ((k3:Int)+1)=(k3:Int)+1:=by rw[nL];have:=At.out;omega
      have Jp:=S7.M.1;by_cases Ih:(k3:Int)<(ZT D4:Int)
      ·obtain⟨r4,IB,Iv⟩:=dJ (R:=D4) (i:=k3) (by omega);have JE:=ae IB;have hln4:=(S7.aq r4 Iv).ln;clear IB Iv;go_wp2_with fail;clear Jp;go_loopg [12] r4.1.f (λgh j wr=>∃(j3:Nat) (D5:List DR) (ZO:DR),j3+gh=r4.1.f/\j=J I j3/\Hid (ZT D5=ZT D4)/\Hid (D5.map (·.2)=D4.map (·.2))/\Hid (D5[k3]?=T ZO)/\Hid (ZO.1.f=r4.1.f)/\Hid (SpS ZL w R X wr q3 (T (Q g5 0 Y)) c5 D5));case atStart=>exact⟨0,D4,r4,by omega,rfl,rfl,rfl,JE,rfl,S7⟩
       case round =>
        clear S7;obtain⟨j3,D5,ZO,hg5,rfl,Hk,Hj,n8,ex,S8⟩:=hrel;have JC:k3<ZT D5:=by have:=Hk.out;omega
        have IG:=IN n8.out;have Ig:=ae IG;clear IG;have hln5:ZO.1.f<=200+ZL:=by have:=ex.out;omega
        have hwj3:IntKind.i64.wrap ((j3:Int)+1)=(j3:Int)+1:=by rw[nL];have:=ex.out;omega
        obtain⟨al,cl,el⟩:=du (S8.row.sub ZO Ig).am;have EL:=ae el;have Jt:=S8.M.1;have JJ:_=T (Value.slice al ZO.1.f cl):=(S8.L (j:=5) n8 (by omega) (by rw[<-el];rfl)).1;clear el;by_cases hjl:(j3:Int)<(ZO.1.f:Int)
        ·have Hr:j3<ZO.1.f:=by omega
         obtain⟨gl,Jj,e2⟩:=bV (S8.row.sub ZO Ig).am (by omega);rw[EL.out] at e2;obtain⟨rfl,-,-⟩:=PV e2;clear e2 Jj;have OL:Hid (∀V q,SpS ZL w R X V q (T (Q g5 0 Y)) c5 D5->ZX V (w.heap.size+2) 68 4 (Z (T (Q gl 0 Y)) ZO.1.f cl) ZO.1.f (bq ZO.1.m ZO.1.f)):=λV q hV=>by rw[<-EL.out];exact(hV.row.sub ZO Ig).am
         have ak:=(cS (j:=1) (OL _ _ S8) Hr (by omega) rfl).1;cases hask:(ZO.1.m j3).ask with
         |false =>
          rw[hask] at ak;clear hask;go_wp2;go_roundg (r4.1.f - 1 - j3);case measure=>have:=ex.out;omega
          case rel=>exact⟨j3+1,D5,ZO,by have:=ex.out;omega,by go_num,Hk,Hj,n8,ex,S8⟩
         |true =>
          rw[hask] at ak;clear hask;go_upto_region 21 with fail;clear Jt JJ ak;refine aD (λV=>ZV V (Q X 0 Y)=T (Z (T (Q g5 0 Y)) (ZT D5) c5)/\ZV V (Q g5 (k3*6+5) Y)=T (Z (T (Q gl 0 Y)) ZO.1.f cl)/\ZV V (Q gl (j3*4+3) Y)=T (J I (ZO.1.m j3).L)) 20 (by kernel_rfl) ?_;have S9:=ae (S8.aa br.drew);clear S8;generalize wr.drew=v8 at S9 ⊢;have B:Hid (ZV v8 (Q X 0 Y)=T (Z (T (Q g5 0 Y)) (ZT D5) c5)/\ZV v8 (Q g5 (k3*6+5) Y)=T (Z (T (Q gl 0 Y)) ZO.1.f cl)/\ZV v8 (Q gl (j3*4+3) Y)=T (J I (ZO.1.m j3).L)):=⟨S9.M.1,(S9.L (j:=5) n8 (by omega) (by rw[<-EL.out];rfl)).1,(cS (j:=3) (OL _ _ S9) Hr (by omega) rfl).1⟩
          iterate 18
           refine aM 0 (v:=?_) rfl rfl (by kernel_rfl) (λ_ _ _ h=>h) rfl ?_ B ?_;rotate_left
           ·(rintro wz ⟨s0,s1,s2⟩;go_simp)
            (try with_reducible rfl)
           (try simp only[Act.put,nzL])
          generalize IntKind.i64.wrap ((ZO.1.m j3).L+1)=zz;iterate 2
           refine bY 18 rfl rfl (by kernel_rfl) λK A=>?_;go_simp;refine A _ _ (λ_=>B) ?_;clear A K
           (try simp only[Act.put,nzL])
          have d0:=B.2.2;have d1:=(cS (j:=3) (OL _ _ S9) Hr (by omega) rfl).2;have Jr:=((OL _ _ S9).lt gl rfl).2;have Iu:(D5.map (·.2.2)).Pairwise Apt:=by
           have e3:D5.map (·.2.2)=D3.map (·.2.2):=by have e4:=CD (List.map Prod.snd) (Hj.trans IM);rw[List.map_map,List.map_map] at e4;exact e4
           rw[e3];exact UP
          have JB:=ae (S9.am Iu n8 EL Hr zz);clear Iu;refine ah (i:=20) rfl (by kernel_rfl) λK A=>?_;go_simp;refine A _ _ (λh=>absurd rfl h) ?_;clear A K B
          (try simp only[Act.put,nzL])
          refine bk (by kernel_rfl) ?_ _;clear d0 d1 Jr S9;go_wp2;go_roundg (r4.1.f - 1 - j3);case measure=>have:=ex.out;omega
          case rel=>exact⟨j3+1,D5.set k3 (atD ZO.1 j3 zz,ZO.2),(atD ZO.1 j3 zz,ZO.2),by have:=ex.out;omega,by go_num,KP.trans Hk,(Du n8 _).trans Hj,L8 JC,ex,JB⟩
        ·go_wp2;go_roundg (ZT D3 - 1 - k3);case measure=>have:=At.out;omega
         case rel=>exact⟨k3+1,D5,by have:=At.out;omega,by go_num,Hk.trans At,Hj.trans IM,S8⟩
      {go_wp2;go_meet;exact⟨_,_,_,_,by omega,S7⟩}
  all_goals
   as_aux_lemma =>
    first
     |have e:s=0:=h
      subst e;obtain⟨r0,IK,Hv⟩:=dJ (R:=D) (i:=0) (by omega);have H0:=ae IK;have Jy:r0.1.e.size<=5000:=(sm r0 Hv).nm;clear IK Hv;go_wp2_with fail;refine aD (λV=>ZV V (Q X 0 Y)=T (Z (T (Q g 0 Y)) (ZT D) c1)/\ZV V (Q g 0 Y)=T (U r0.1.e)) 16 (by kernel_rfl) ?_;have l:=ae (H.aa br.drew);clear H;generalize M.drew=E at l ⊢;have hD0:0<ZT D:=by omega
      have B:Hid (ZV E (Q X 0 Y)=T (Z (T (Q g 0 Y)) (ZT D) c1)/\ZV E (Q g 0 Y)=T (U r0.1.e)):=⟨l.M.1,by have h:=(l.L (k:=0) (j:=0) H0 (by omega) rfl).1;simpa using h⟩
      iterate 8
       refine aM 0 (v:=?_) rfl rfl (by kernel_rfl) (λ_ _ _ h=>h) rfl ?_ B ?_;rotate_left
       ·(rintro wz ⟨s0,s1⟩;go_simp)
        (try with_reducible rfl)
       (try simp only[Act.put,nzL])
      refine aM 10 (v:=?_) rfl rfl (by kernel_rfl) (λ_ _ _ h=>h) rfl ?_ B ?_;rotate_left
      ·(rintro wz ⟨s0,s1⟩;go_simp)
       (try with_reducible rfl)
      (try simp only[Act.put,nzL])
      refine ah (i:=8) rfl (by kernel_rfl) λK A=>?_;go_simp;go_at_call 53;obtain⟨m1,Hp⟩:∃m1:Nat,(61:Int)=(m1:Int):=⟨61,rfl⟩
      rw[Hp];refine(eZ ⟨#[110]⟩ m1 _ (by show 1*m1<=4000;omega) (by omega)).mono ?_;rintro e v6 ⟨t,rfl,ht,hw⟩;rw[hw];have Ie:t.size<=5000:=AD ht (by show 1*m1<=5000;omega);clear ht hw;refine A _ _ (λ_=>B) ?_;clear A K
      (try simp only[Act.put,nzL])
      refine oe (i:=9) (j:=11) rfl rfl (by kernel_rfl) (λK A=>?_) λK A=>?_
      focus
       go_simp;have A4:=(q9 E).alloc ly (N #[U ⟨#[]⟩,U ⟨#[120,32,121]⟩,U r0.1.e,U t] 9);have HL:Hid ((ZU E (N #[U ⟨#[]⟩,U ⟨#[120,32,121]⟩,U r0.1.e,U t] 9)).heap[E.heap.size]?=T (N #[U ⟨#[]⟩,U ⟨#[120,32,121]⟩,U r0.1.e,U t] 9 (0,0))):=nD E _;have C:=ae (l.aa A4);have H6:=l.lt;have Ic:=l.hX;have Hw:E.heap.size≠R:=by omega
       clear A4 B H6 Ic;generalize World.alloc E _=O at C HL ⊢;generalize E.heap.size=II at HL Hw ⊢;have B:Hid (ZV O (Q X 0 Y)=T (Z (T (Q g 0 Y)) (ZT D) c1)/\ZV O (Q g 0 Y)=T (U r0.1.e)):=⟨C.M.1,by have h:=(C.L (k:=0) (j:=0) H0 (by omega) rfl).1;simpa using h⟩
       refine A _ _ (λ_=>B) ?_;clear A K
       (try simp only[Act.put,nzL])
       refine ah (i:=11) rfl (by kernel_rfl) λK A=>?_;go_simp;go_at_call 13;refine(ar R _ 4 _ C.rd (by omega) (by omega) (by omega)).mono ?_;rintro e v5 ⟨z4,rfl,Hi,Je,ZQ,ZS⟩;obtain⟨m,rfl⟩:=p9 Hi;have hm:m<4:=by omega
       have ZM:=ae (C.ac ZS ZQ);have HL:=ae ((ZS.block II (ag HL) Hw).trans HL);clear ZS ZQ C B;have B:Hid (ZV v5 (Q X 0 Y)=T (Z (T (Q g 0 Y)) (ZT D) c1)/\ZV v5 (Q g 0 Y)=T (U r0.1.e)):=⟨ZM.M.1,by have h:=(ZM.L (k:=0) (j:=0) H0 (by omega) rfl).1;simpa using h⟩
       refine A _ _ (λ_=>B) ?_;clear A K
       (try simp only[Act.put,nzL])
      rotate_left
      focus
       go_simp;go_at_call 13;refine(ar R _ 4 _ l.rd (by omega) (by omega) (by omega)).mono ?_;rintro e O ⟨z4,rfl,Hi,Je,ZQ,ZS⟩;obtain⟨m,rfl⟩:=p9 Hi;have hm:m<4:=by omega
       have C:=ae (l.ac ZS ZQ);clear ZS ZQ l B;have B:Hid (ZV O (Q X 0 Y)=T (Z (T (Q g 0 Y)) (ZT D) c1)/\ZV O (Q g 0 Y)=T (U r0.1.e)):=⟨C.M.1,by have h:=(C.L (k:=0) (j:=0) H0 (by omega) rfl).1;simpa using h⟩
       refine A _ _ (λ_=>B) ?_;clear A K
       (try simp only[Act.put,nzL])
       refine ah (i:=9) rfl (by kernel_rfl) λK A=>?_;go_simp;have A4:=(q9 O).alloc ly (N #[U ⟨#[]⟩,U ⟨#[120,32,121]⟩,U r0.1.e,U t] 9);have HL:Hid ((ZU O (N #[U ⟨#[]⟩,U ⟨#[120,32,121]⟩,U r0.1.e,U t] 9)).heap[O.heap.size]?=T (N #[U ⟨#[]⟩,U ⟨#[120,32,121]⟩,U r0.1.e,U t] 9 (0,0))):=nD O _;have ZM:=ae (C.aa A4);have H6:=C.lt;have Ic:=C.hX;have Hw:O.heap.size≠R:=by omega
       clear A4 B H6 Ic;generalize World.alloc O _=v5 at ZM HL ⊢;generalize O.heap.size=II at HL Hw ⊢;have B:Hid (ZV v5 (Q X 0 Y)=T (Z (T (Q g 0 Y)) (ZT D) c1)/\ZV v5 (Q g 0 Y)=T (U r0.1.e)):=⟨ZM.M.1,by have h:=(ZM.L (k:=0) (j:=0) H0 (by omega) rfl).1;simpa using h⟩
       refine A _ _ (λ_=>B) ?_;clear A K
       (try simp only[Act.put,nzL])
      all_goals
       obtain⟨zz,JN,hzz⟩:=DK HL (by decide) (by decide) Jy Ie m hm
       iterate 4
        refine bY 12 rfl rfl (by kernel_rfl) λK A=>?_;go_simp;refine A _ _ (λ_=>B) ?_;clear A K
        (try simp only[Act.put,nzL])
       obtain⟨d0,d1⟩:=ZM.L (j:=0) ZK (by omega) rfl;rw[NO] at d0 d1;have gl:=ZM.gb.2.1;have S9:=ae (ZM.ad (j:=0) (u:=U zz) (r':=({ r.1 with e:=zz },r.2)) ZK (by omega) rfl ((ZM.row.sub r HM).same _ rfl rfl rfl rfl) (P.e JN))
     |have e:s=1:=h
      subst e;go_wp2_with fail;refine aD (λV=>ZV V (Q X 0 Y)=T (Z (T (Q g 0 Y)) (ZT D) c1)) 7 (by kernel_rfl) ?_;have l:=ae (H.aa br.drew);clear H;generalize M.drew=E at l ⊢;have B:=ae l.M.1
      iterate 4
       refine aM 0 (v:=?_) rfl rfl (by kernel_rfl) (λ_ _ _ h=>h) rfl ?_ B ?_;rotate_left
       ·(intro wz s0;go_simp)
        (try with_reducible rfl)
       (try simp only[Act.put,nzL])
      refine ah (i:=4) rfl (by kernel_rfl) λK A=>?_;go_simp;go_at_call 13;refine(ar R _ 5 _ l.rd (by omega) (by omega) (by omega)).mono ?_;rintro e O ⟨z4,rfl,I8,It,ZQ,ZS⟩;have C:=ae (l.ac ZS ZQ);clear ZS ZQ l B;have B:=ae C.M.1;refine A _ _ (λ_=>B) ?_;clear A K
      (try simp only[Act.put,nzL])
      iterate 2
       refine bY 5 rfl rfl (by kernel_rfl) λK A=>?_;go_simp;refine A _ _ (λ_=>B) ?_;clear A K
       (try simp only[Act.put,nzL])
      obtain⟨d0,d1⟩:=C.L (j:=1) ZK (by omega) rfl;have gl:=C.gb.2.1;have S9:=ae (C.ad (j:=1) (u:=J I z4) (r':=({ r.1 with H:=z4 },r.2)) ZK (by omega) rfl ((C.row.sub r HM).same _ rfl rfl rfl rfl) (P.H z4))
     |have e:s=2:=h
      subst e;go_wp2_with fail;refine aD (λV=>ZV V (Q X 0 Y)=T (Z (T (Q g 0 Y)) (ZT D) c1)) 8 (by kernel_rfl) ?_;have l:=ae (H.aa br.drew);clear H;generalize M.drew=E at l ⊢;have B:=ae l.M.1
      iterate 4
       refine aM 0 (v:=?_) rfl rfl (by kernel_rfl) (λ_ _ _ h=>h) rfl ?_ B ?_;rotate_left
       ·(intro wz s0;go_simp)
        (try with_reducible rfl)
       (try simp only[Act.put,nzL])
      refine ah (i:=4) rfl (by kernel_rfl) λK A=>?_;go_simp;go_at_call 13;refine(ar R _ 8 _ l.rd (by omega) (by omega) (by omega)).mono ?_;rintro e O ⟨z4,rfl,I8,It,ZQ,ZS⟩;have C:=ae (l.ac ZS ZQ);clear ZS ZQ l B;have B:=ae C.M.1;refine A _ _ (λ_=>B) ?_;clear A K
      (try simp only[Act.put,nzL])
      have IA:IntKind.i64.wrap (z4 - 1)=z4 - 1:=by rw[nL];omega
      iterate 3
       refine bY 5 rfl rfl (by kernel_rfl) λK A=>?_;go_simp;refine A _ _ (λ_=>B) ?_;clear A K
       (try simp only[Act.put,nzL])
      obtain⟨d0,d1⟩:=C.L (j:=2) ZK (by omega) rfl;have gl:=C.gb.2.1;have S9:=ae (C.ad (j:=2) (u:=J I (z4 - 1)) (r':=({ r.1 with E:=z4 - 1 },r.2)) ZK (by omega) rfl ((C.row.sub r HM).same _ rfl rfl rfl rfl) (P.E _))
     |have e:s=3:=h
      subst e;go_wp2_with fail;refine aD (λV=>ZV V (Q X 0 Y)=T (Z (T (Q g 0 Y)) (ZT D) c1)/\ZV V (Q g (k*6+3) Y)=T (U r.1.B)) 12 (by kernel_rfl) ?_;have l:=ae (H.aa br.drew);clear H;generalize M.drew=E at l ⊢;have B:Hid (ZV E (Q X 0 Y)=T (Z (T (Q g 0 Y)) (ZT D) c1)/\ZV E (Q g (k*6+3) Y)=T (U r.1.B)):=⟨l.M.1,(l.L (j:=3) ZK (by omega) rfl).1⟩
      have hsz:¬ 9223372036854775807<r.1.B.size+1:=by omega
      have Jc:(r.1.B++⟨#[120]⟩).size<=2000+ZL:=by have e1:(⟨#[120]⟩:ByteArray).size=1:=rfl;rw[L9,e1];omega
      iterate 9
       refine aM 0 (v:=?_) rfl rfl (by kernel_rfl) (λ_ _ _ h=>h) rfl ?_ B ?_;rotate_left
       ·(rintro wz ⟨s0,s1⟩;go_simp)
        (try with_reducible rfl)
       (try simp only[Act.put,nzL])
      iterate 3
       refine bY 9 rfl rfl (by kernel_rfl) λK A=>?_;go_simp;refine A _ _ (λ_=>B) ?_;clear A K
       (try simp only[Act.put,nzL])
      obtain⟨d0,d1⟩:=l.L (j:=3) ZK (by omega) rfl;have gl:=l.gb.2.1;have S9:=ae (l.ad (j:=3) (u:=U (r.1.B++⟨#[120]⟩)) (r':=({ r.1 with B:=r.1.B++⟨#[120]⟩ },r.2)) ZK (by omega) rfl ((l.row.sub r HM).same _ rfl rfl rfl rfl) (P.B Jc))
     |have e:s=4:=h
      subst e;go_wp2_with fail;refine aD (λV=>ZV V (Q X 0 Y)=T (Z (T (Q g 0 Y)) (ZT D) c1)) 9 (by kernel_rfl) ?_;have l:=ae (H.aa br.drew);clear H;generalize M.drew=E at l ⊢;have B:=ae l.M.1
      iterate 4
       refine aM 0 (v:=?_) rfl rfl (by kernel_rfl) (λ_ _ _ h=>h) rfl ?_ B ?_;rotate_left
       ·(intro wz s0;go_simp)
        (try with_reducible rfl)
       (try simp only[Act.put,nzL])
      refine ah (i:=4) rfl (by kernel_rfl) λK A=>?_;go_simp;go_at_call 13;refine(ar R _ 2 _ l.rd (by omega) (by omega) (by omega)).mono ?_;rintro e O ⟨z4,rfl,I8,It,ZQ,ZS⟩;have C:=ae (l.ac ZS ZQ);clear ZS ZQ l B;have B:=ae C.M.1;refine A _ _ (λ_=>B) ?_;clear A K
      (try simp only[Act.put,nzL])
      have IA:IntKind.i64.wrap (2000+z4)=2000+z4:=by rw[nL];omega
      refine ah (i:=5) rfl (by kernel_rfl) λK A=>?_;go_simp;refine A _ _ (λ_=>B) ?_;clear A K
      (try simp only[Act.put,nzL])
      obtain⟨m0,Hv⟩:∃m0:Nat,2000+z4=(m0:Int):=⟨(2000+z4).toNat,by omega⟩
      rw[Hv];refine ah (i:=6) rfl (by kernel_rfl) λK A=>?_;go_simp;go_at_call 53;refine(eZ ⟨#[116]⟩ m0 _ (by show 1*m0<=4000;omega) (by omega)).mono ?_;rintro e v6 ⟨t,rfl,ht,hw⟩;rw[hw];have Ie:t.size<=2000+ZL:=AD ht (by show 1*m0<=2000+ZL;omega);clear ht hw IA;refine A _ _ (λ_=>B) ?_;clear A K
      (try simp only[Act.put,nzL])
      iterate 2
       refine bY 7 rfl rfl (by kernel_rfl) λK A=>?_;go_simp;refine A _ _ (λ_=>B) ?_;clear A K
       (try simp only[Act.put,nzL])
      obtain⟨d0,d1⟩:=C.L (j:=3) ZK (by omega) rfl;have gl:=C.gb.2.1;have S9:=ae (C.ad (j:=3) (u:=U t) (r':=({ r.1 with B:=t },r.2)) ZK (by omega) rfl ((C.row.sub r HM).same _ rfl rfl rfl rfl) (P.B Ie))
     |have e:s=5:=h
      subst e;obtain⟨⟨ga,ca,ea⟩,-⟩:=la.out r HM;have EA:=ae ea;clear ea;go_wp2_with fail;refine aD (λV=>ZV V (Q X 0 Y)=T (Z (T (Q g 0 Y)) (ZT D) c1)/\ZV V (Q g (k*6+4) Y)=T (Z (T (Q ga 0 Y)) r.1.l ca)) 13 (by kernel_rfl) ?_;have l:=ae (H.aa br.drew);clear H;generalize M.drew=E at l ⊢;have B:Hid (ZV E (Q X 0 Y)=T (Z (T (Q g 0 Y)) (ZT D) c1)/\ZV E (Q g (k*6+4) Y)=T (Z (T (Q ga 0 Y)) r.1.l ca)):=⟨l.M.1,(l.L (j:=4) ZK (by omega) (by rw[<-EA.out];rfl)).1⟩
      iterate 10
       refine aM 0 (v:=?_) rfl rfl (by kernel_rfl) (λ_ _ _ h=>h) rfl ?_ B ?_;rotate_left
       ·(rintro wz ⟨s0,s1⟩;go_simp)
        (try with_reducible rfl)
       (try simp only[Act.put,nzL])
      refine ah (i:=10) rfl (by kernel_rfl) λK A=>?_;go_simp;go_at_call 54;refine(AM (l.row.sub r HM) EA l.rd (by omega) Hu (by omega)).mono ?_;rintro e O ⟨L4,g4,c4,rfl,I5,-,Jg,IZ,q4,hq4,ZQ,ZS⟩;have C:=ae (l.ac ZS ZQ);have IQ:=l.lt;have I4:Hid (ZX O (w.heap.size+2) 90 3 (Z (T (Q g4 0 Y)) (ZT L4) c4) (ZT L4) (bK (de L4) (ZT L4))):=by show World.ownsRow _ _ _ _ _ _ _;rw[<-pK];exact aA I5 (by omega)
      have T4:=ae IZ;clear ZS ZQ l B I5 IZ IQ;have B:Hid (ZV O (Q X 0 Y)=T (Z (T (Q g 0 Y)) (ZT D) c1)/\ZV O (Q g (k*6+4) Y)=T (Z (T (Q ga 0 Y)) r.1.l ca)):=⟨C.M.1,(C.L (j:=4) ZK (by omega) (by rw[<-EA.out];rfl)).1⟩
      refine A _ _ (λ_=>B) ?_;clear A K
      (try simp only[Act.put,nzL])
      iterate 2
       refine bY 11 rfl rfl (by kernel_rfl) λK A=>?_;go_simp;refine A _ _ (λ_=>B) ?_;clear A K
       (try simp only[Act.put,nzL])
      have d0:=B.2;have d1:=(C.L (j:=4) ZK (by omega) rfl).2;have gl:=C.gb.2.1;have S9:=ae (C.ad (j:=4) (u:=Z (T (Q g4 0 Y)) (ZT L4) c4) (r':=({ r.1 with l:=ZT L4,u:=de L4 },Z (T (Q g4 0 Y)) (ZT L4) c4,r.2.2)) ZK (by omega) rfl ⟨I4,(C.row.sub r HM).am⟩ ⟨P.nm,P.tx,by show (ZT L4)<=200+ZL;omega,jy T4,P.ln,P.lsz⟩)
    all_goals
     refine bY 0 rfl rfl (by kernel_rfl) λK A=>?_;go_simp;refine A _ _ (λh=>absurd rfl h) ?_;clear A K B
     (try simp only[Act.put,nzL])
     refine bk (by kernel_rfl) ?_ _;clear d0 d1 gl;go_wp2;go_meet;exact⟨_,_,_,_,by omega,S9⟩
 case rest =>
 clear H;obtain⟨a',c',q',D',Jq,S9⟩:=hcut;have bx:=S9.M.1;have rs:=S9.rs;have r0:ZV wc (Q (w.heap.size+1) 0 Y)=T (Z Y 0 0):=by simp[World.cell?,rs]
 have f0:ZW wc (Q (w.heap.size+1) 0 Y)=ZB:=by simp[World.frozen?,rs]
 have l0:=ag rs;have FN:=ae (S9.fin (by omega) Jq);clear rs;go_wp2;exact bp (v:=ZH #[Z a' (ZT D') c']) (by simp[results,results26,go_sem,r0]) rfl FN.out
