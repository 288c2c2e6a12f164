import Derived.Test.YthkgkfehliinfaaGreatDoorES
import Derived.Test.YthkgkfehliinfaaGreatDoorEB
set_option linter.all false
set_option maxRecDepth 100000
set_option maxHeartbeats 40000000
open Go renaming Addr.mk->Q,Value.slice->Y,Value.string->U,Value.int->J,Value.bool->ZF,Value.agg->ZJ,Obj.cells->N,IntKind.i64->I,World->E,TypeId->ZK,World.heap->B,World.ownsRow->ZY,World.alloc->ZV,World.cell?->ZW,World.frozen?->ZX
open Option renaming none->Z,some->T
open Bool renaming false->ZA,true->ZH
open Array renaming size->z
open List renaming length->ZU
namespace Go.Proofs.YthkgkfehliinfaaGreatDoor.Vp
open Tryz RowKit Ca
variable {w W:E}{n b m R:Nat}{t:ZK}
def Ip:∃i:TypeInfo,Tryz.prog.info? 74=T i/\i.zero=T (ZJ #[U ⟨#[]⟩,ZF ZA,ZF ZA,J I 0])/\i.size=4/\i.bytes=32:=NP lH
def mL{base size:Nat}{e:ZK}{cs:Array Value}(hb:base<=z (B w))(f:n<=maxLen)(b:cs.size=n*size):(w.alloc (N cs e)).ownsRow base e size (Y (T (Q (z (B w)) 0 Z)) n n) n cs.toList:=
 ⟨by simpa using b,.inr ⟨z (B w),n,cs,rfl,hb,gM w _,p7 _,f,b,by rw[NV];simp[b]⟩⟩
def Dp (f:Nat->Link)(h:m<=n):(cy f n).take (m*4)=cy f m:=by
 refine UG λj=>?_;rw[TV];have hn:=iT f n;have hm:=iT f m;by_cases b:j<m*4
 ·have e:j=j / 4*4+j % 4:=by omega
  rw[eT b,e,jJ f (by omega) _ (UJ _ (by omega)),jJ f (by omega) _ (UJ _ (by omega))]
 {rw[eI b,NU (by omega)]}
def Gm{g c:Nat}{f:Nat->Link}(h:ZY w b 74 4 (Y (T (Q g 0 Z)) n c) n (cy f n))(p:m<=n):ZY w b 74 4 (Y (T (Q g 0 Z)) m c) m (cy f m):=by
 refine⟨iT f m,?_⟩;rcases h.2 with⟨i,_⟩|⟨g',j_,j,i,hb,l,hc,q,r,o⟩
 {cases i}
 ·cases i
  refine .inr ⟨g,c,j,rfl,hb,l,by omega,q,r,?_⟩;rw[<-Dp f p,<-o,List.take_take,QM (by omega)]
def ww (f:Nat->Link)(n:Nat)(y:Link):cy f n++du y=cy (λi=>if i=n then y else f i) (n+1):=by
 unfold cy;rw[PI,NE,J2];congr 1;{congr 1;refine XS λi hi=>?_;have:=E4.1 hi;rw[eI (by omega)]};{simp}
def Gn{i l g f:Int}{fz:Nat × Nat}(h:w.heap[b]?=T (N #[J I i,J I l,J I g,J I f] t fz))(k:Nat)(m:k<4):∃ZZ,ZW w (Q b k Z)=T (J I ZZ):=by
 match k,m with
 |0,_=>exact⟨i,by simp[World.cell?,h]⟩
 |1,_=>exact⟨l,by simp[World.cell?,h]⟩
 |2,_=>exact⟨g,by simp[World.cell?,h]⟩
 |3,_=>exact⟨f,by simp[World.cell?,h]⟩
 |j+4,h5=>exact absurd h5 (by omega)
def oh (W:E)(b:Nat):Nat:=match ZW W (Q b 5 Z) with
 |some (Y _ n _)=>n
 |_=>0
def LBx.len{c:Nat}{f g j i l:Value}{a:O_}(h:LBx W b f g j i l (Y a n c)):oh W b=n:=by unfold oh;rw[h.cells.2.2.2.2.2]
def qV (ZQ:Nat)(hNN:200<=ZQ/\ZQ<=299)(w0:E)(R p x g c n:Nat)(f:Nat->Link)(nm tx:F_)(ZR L:Int)(G:O_)(H c4:Nat)(w:E)(hO:zd R w0 w)(hR:R<z (B w0))(hb:z (B w0)<=x)(hbw:x<=z (B w))(hr:Rd w R p)(hp:p<=50000)(Id:ZY w x 74 4 (Y (T (Q g 0 Z)) n c) n (cy f n))(hn:n<=ZQ)(Fd:∀j,j<n->(f j).e.size<=5000):Calls Tryz.prog 67 #[.pointer (T (Q R 0 Z)),ZJ #[U nm,J I ZR,J I L,U tx,Y G H c4,Y (T (Q g 0 Z)) n c]] w λe w'=>DL ZQ w0 w R x g (U nm) (J I ZR) (J I L) (U tx) (Y G H c4) (p+10) e w':=by
 have ZM:=ae (Im (v0:=U nm) (v1:=J I ZR) (v2:=J I L) (v3:=U tx) (v4:=Y G H c4) hO hR hb hbw hr Id Fd);obtain⟨GS,hi,Fm,DQ,Bk⟩:=Ip;clear hO hR hb hbw hr Id Fd;obtain⟨-,-,-,-,-,W⟩:=ZM.bx.cells;have S:=ZM.bx.lt;by_cases hz:n=0
 ·subst hz;go_enter func67,ntmps67;go_wp2_with fail;generalize World.alloc (World.alloc w _) _=W0 at ZM W S ⊢;clear W S;refine(dH R _ _ ZM.rd (by omega)).P ?_;rintro e w1⟨ln,rfl,JK,ld,aq⟩;have L1:=ae (ZM.ac aq ld);clear aq ld ZM;go_wp2_with fail;refine(ay R _ 2 _ L1.rd (by omega) (by omega) (by omega)).P ?_;rintro e ZO⟨ZZ,rfl,qr,ur,bt,la⟩;have A:=ae (L1.ac la bt);clear la bt L1;obtain⟨bh,JI⟩:∃b:Bool,(ZZ=0/\b=ZH)\/(ZZ=1/\b=ZA):=by rcases(show ZZ=0\/ZZ=1 by omega) with h|h<;>simp[h]
  have A3:=(BS ZO).alloc ly (N #[U ln,ZF ZA,ZF bh,J I 0] 74);have h2:=A.lt;have h3:=A.hbw;have O3:(ZV ZO (N #[U ln,ZF ZA,ZF bh,J I 0] 74)).ownsRow x 74 4 (Y (T (Q (z (B ZO)) 0 Z)) 1 1) 1 (cy (λ_=>⟨ln,ZA,bh,0⟩) 1):=mL (cs:=#[U ln,ZF ZA,ZF bh,J I 0]) (by omega) (by unfold maxLen;omega) rfl;have o:=ae ((A.aa A3).setB (qS _ _) O3 (.inr (by omega)) (λj _=>by show ln.size<=5000;omega));obtain⟨-,-,-,-,-,W⟩:=A.bx.cells;have bz:=A.bx.fz 5;have S:=A.bx.lt;rw[World.setCell_alloc_past _ _ _ _ S] at o;clear A3 O3;rcases JI with⟨rfl,rfl⟩|⟨rfl,rfl⟩
  all_goals
   go_upto_region 3 with fail;generalize World.alloc (World.setCell ZO _ _) _=W3 at o ⊢;clear W bz S;obtain⟨b0,b1,b2,b3,b4,W⟩:=o.bx.cells;obtain⟨r0,r1,r2,r3,r4,r5⟩:=o.rs.cells;obtain⟨z0,z1,z2,z3,z4,z5⟩:=al6 o.rs.fz;have S:=o.bx.lt;have lr:=o.rs.lt;have FN:=ae (o.fin (ZQ:=ZQ) (ZP:=p+10) (by omega) (by omega) (U nm) (J I ZR) (J I L) (U tx) (Y G H c4) (Y (T (Q (z (B ZO)) 0 Z)) 1 1));have FB:=ae (o.rs.six (U nm) (J I ZR) (J I L) (U tx) (Y G H c4) (Y (T (Q (z (B ZO)) 0 Z)) 1 1));go_wp2;generalize World.setCell (World.setCell (World.setCell (World.setCell (World.setCell (World.setCell W3 _ _) _ _) _ _) _ _) _ _) _ _=V at FN FB ⊢;obtain⟨x0,x1,x2,x3,x4,x5⟩:=FB.cells;exact bp (v:=ZJ #[U nm,J I ZR,J I L,U tx,Y G H c4,Y (T (Q (z (B ZO)) 0 Z)) 1 1]) (by simp[results,results67,go_sem,x0,x1,x2,x3,x4,x5]) rfl FN.i
 have nz:¬ ((n:Int)=0):=by omega
 go_enter func67,ntmps67;go_wp2_with fail;generalize World.alloc (World.alloc w _) _=W0 at ZM W S ⊢;refine(ay R _ (n:Int) _ ZM.rd (by omega) (by omega) (by omega)).P ?_;rintro e w1⟨ZZ,rfl,qr,ur,ld,aq⟩;obtain⟨k,rfl⟩:=p9 qr;have ZT:k<n:=by omega
 have L1:=ae (ZM.ac aq ld);clear aq ld ZM W S qr ur;go_wp2_with fail;refine(ay R _ 7 _ L1.rd (by omega) (by omega) (by omega)).P ?_;rintro e ZO⟨s,rfl,hs0,hs1,bt,la⟩;have A:=ae (L1.ac la bt);clear la bt L1;have hn1:=A.nm k ZT;have SB:Hid (∀V:E,LBx V (z (B w)) (U nm) (J I ZR) (J I L) (U tx) (Y G H c4) (Y (T (Q g 0 Z)) n c)->ZW V (Q (z (B w)) 5 Z)=T (Y (T (Q g 0 Z)) n c)):=λV h=>h.cells.2.2.2.2.2;go_upto_block 0 with fail;go_cut [] (λwx=>∃(q' X ZS ZL:Nat) (f':Nat->Link),q'<=p+10/\ZS<=ZQ+1/\Hid (LStD w0 w R x g (U nm) (J I ZR) (J I L) (U tx) (Y G H c4) wx q' X ZS ZL f'));case rest =>clear A SB hn1;obtain⟨q',X,ZS,ZL,f',hq',JJ,l⟩:=hcut;go_upto_region 21 with fail;obtain⟨b0,b1,b2,b3,b4,W⟩:=l.bx.cells;obtain⟨r0,r1,r2,r3,r4,r5⟩:=l.rs.cells;obtain⟨z0,z1,z2,z3,z4,z5⟩:=al6 l.rs.fz;have S:=l.bx.lt;have lr:=l.rs.lt;have FN:=ae (l.fin (ZQ:=ZQ) (ZP:=p+10) (by omega) (by omega) (U nm) (J I ZR) (J I L) (U tx) (Y G H c4) (Y (T (Q X 0 Z)) ZS ZL));have FB:=ae (l.rs.six (U nm) (J I ZR) (J I L) (U tx) (Y G H c4) (Y (T (Q X 0 Z)) ZS ZL));go_wp2;generalize World.setCell (World.setCell (World.setCell (World.setCell (World.setCell (World.setCell wc _ _) _ _) _ _) _ _) _ _) _ _=V at FN FB ⊢;obtain⟨x0,x1,x2,x3,x4,x5⟩:=FB.cells;exact bp (v:=ZJ #[U nm,J I ZR,J I L,U tx,Y G H c4,Y (T (Q X 0 Z)) ZS ZL]) (by simp[results,results67,go_sem,x0,x1,x2,x3,x4,x5]) rfl FN.i
 rcases(show(s=0\/s=1\/s=2\/s=3)\/s=4\/s=5\/s=6 by omega) with (rfl|rfl|rfl|rfl)|rfl|rfl|rfl;rotate_left 4
 ·obtain⟨m,rfl⟩:∃m,n=m+1:=⟨n - 1,by omega⟩
  have hcap:=jY A.y;obtain⟨-,-,-,-,-,W⟩:=A.bx.cells;have bz:=A.bx.fz 5;have S:=A.bx.lt;have o:=ae (A.setB (qS _ _) (Gm A.y (BV m)) (.inl rfl) (λj hj=>A.nm j (by omega)));have hw:IntKind.i64.wrap (((m+1:Nat):Int) - 1)=(m:Int):=by rw[nL];omega
  go_wp2;go_meet;exact⟨_,_,_,_,_,by omega,by omega,o⟩
 ·go_wp2_with fail;refine aI (λV=>ZW V (Q (z (B w)) 5 Z)=T (Y (T (Q g 0 Z)) n c)) 10 (by kernel_rfl) ?_;have o:=ae (A.aa br.drew);clear A;generalize ZO.drew=t at o ⊢;have r:=ae (SB t o.bx);iterate 6
   refine aO 0 (v:=?_) rfl rfl (by kernel_rfl) (λ_ _ _ h=>h) rfl ?_ r ?_;rotate_left
   ·(intro wz s0;go_simp)
    (try with_reducible rfl)
   (try simp only[Act.put,yh])
  have e0:=(cZ (j:=0) o.y ZT (by omega) rfl).1;have e1:=(cZ (j:=1) o.y ZT (by omega) rfl).1;have e2:=(cZ (j:=2) o.y ZT (by omega) rfl).1;have e3:=(cZ (j:=3) o.y ZT (by omega) rfl).1;rw[QF] at e0;refine ai (i:=6) rfl (by kernel_rfl) λK q=>?_;go_simp;refine q _ _ (λ_=>r) ?_;clear q K
  (try simp only[Act.put,yh])
  clear e0 e1 e2 e3;refine ai (i:=7) rfl (by kernel_rfl) λK q=>?_;go_simp;have A4:=(BS t).alloc ly (N #[U (f k).e,ZF (f k).ask,ZF (f k).has,J I (f k).G] 74);have l:=ae (o.aa A4);have HN:Hid (∀j u,(du (f k))[j]?=T u->(ZV t (N #[U (f k).e,ZF (f k).ask,ZF (f k).has,J I (f k).G] 74)).cell? (((Q (z (B t)) 0 Z):Addr).add j)=T u):=(mL (base:=0) (e:=74) (size:=4) (n:=1) (cs:=#[U (f k).e,ZF (f k).ask,ZF (f k).has,J I (f k).G]) (DW _) (by unfold maxLen;omega) rfl).cells rfl;have hl3:=o.lt;have hl3':=o.hbw;have hz3:z (B (ZV t (N #[U (f k).e,ZF (f k).ask,ZF (f k).has,J I (f k).G] 74)))=z (B t)+1:=by simp
  clear A4 r;have r:=ae (SB _ l.bx);refine q _ _ (λ_=>r) ?_;clear q K
  (try simp only[Act.put,yh])
  refine ai (i:=8) rfl (by kernel_rfl) (λK q=>?_);refine step_append_lies _ rfl (.tmp 110) (.tmp 116) 56 rfl x 74 GS (ZJ #[U ⟨#[]⟩,ZF ZA,ZF ZA,J I 0]) 4 32 SU hi Fm DQ Bk rfl (by decide) (Y (T (Q g 0 Z)) n c) n (cy f n) (by simp[Act.eval]) l.y (Q (z (B t)) 0 Z) 1 1 (du (f k)) (by simp[Act.eval]) rfl HN.i (by simp[du,Value.oneCell']) (by omega) (by unfold maxLen;omega) (by omega) (by omega) _ rfl ?_;intro g5 c5 P M C ex DE;rw[ww f n (f k)] at M;have G5:=ae C;have O5:=ae M;have n8:g5=g\/(z (B w))<=g5:=by
   rcases ex with h|h;{exact .inl (by simpa[Value.ownBlock] using h.c)};{exact .inr (by omega)}
  have BX:Hid (LBx P (z (B w)) (U nm) (J I ZR) (J I L) (U tx) (Y G H c4) (Y (T (Q g 0 Z)) n c)):=l.bx.ad (C.p _ l.bx.lt (λe=>l.gne.1 (by simpa[Value.ownBlock] using e.c)));clear M C ex DE HN r;have r:=ae (SB P BX);refine q _ _ (λ_=>r) ?_;clear q K
  (try simp only[Act.put,yh])
  refine ai (i:=9) rfl (by kernel_rfl) λK q=>?_;go_simp;refine q _ _ (λ_=>r) ?_;clear q K
  (try simp only[Act.put,yh])
  have L6:=ae (l.setB G5 O5 n8 (λj hj=>by show(if j=n then f k else f j).e.size<=5000;split;exact hn1;exact l.nm j (by omega)));obtain⟨-,-,-,-,-,W⟩:=BX.cells;have bz:=BX.fz 5;have S:=BX.lt;refine ai (i:=10) rfl (by kernel_rfl) λK q=>?_;go_simp;refine q _ _ (λh=>absurd rfl h) ?_;clear q K r
  (try simp only[Act.put,yh])
  refine ba (by kernel_rfl) ?_ _;clear W bz S BX G5 O5 l;go_wp2;go_meet;exact⟨_,_,_,_,_,by omega,by omega,L6⟩
 ·go_wp2_with fail;refine(ay R _ 2 _ A.rd (by omega) (by omega) (by omega)).P ?_;rintro e w3⟨ZZ,rfl,qr,ur,Hx,At⟩;have o:=ae (A.ac At Hx);clear At Hx A hn1 SB ZT;have hw:IntKind.i64.wrap (200+ZZ)=200+ZZ:=by rw[nL];omega
  go_wp2_with fail;go_loopw [] (λwr=>∃(X ZS ZL:Nat) (f':Nat->Link),ZS<=ZQ+1/\Hid (LStD w0 w R x g (U nm) (J I ZR) (J I L) (U tx) (Y G H c4) wr (p+1+1+1) X ZS ZL f')) (λwr=>300 - oh wr (z (B w)));case atStart=>exact⟨g,n,c,f,by omega,o⟩
  case round =>
   obtain⟨X,ZS,ZL,f',JJ,l⟩:=hrel;obtain⟨-,-,-,-,-,W⟩:=l.bx.cells;have S:=l.bx.lt;have ro:=l.lt;have n9:=l.hbw;clear o;by_cases DE:(ZS:Int)<200+ZZ
   ·have Z8:=ae (l.aa ((BS wr).alloc ly (N #[U ⟨#[97]⟩,ZF ZA,ZF ZH,J I 0] 74)));have HN:Hid (∀j u,(du ⟨⟨#[97]⟩,ZA,ZH,0⟩)[j]?=T u->(ZV wr (N #[U ⟨#[97]⟩,ZF ZA,ZF ZH,J I 0] 74)).cell? (((Q (z (B wr)) 0 Z):Addr).add j)=T u):=(mL (base:=0) (e:=74) (size:=4) (n:=1) (cs:=#[U ⟨#[97]⟩,ZF ZA,ZF ZH,J I 0]) (DW _) (by unfold maxLen;omega) rfl).cells rfl;have hz5:z (B (ZV wr (N #[U ⟨#[97]⟩,ZF ZA,ZF ZH,J I 0] 74)))=z (B wr)+1:=by simp
    go_wp2_with (at_builtin;refine wpList_append_lies _ rfl (.tmp 36) (.tmp 38) 56 rfl x 74 GS (ZJ #[U ⟨#[]⟩,ZF ZA,ZF ZA,J I 0]) 4 32 SU hi Fm DQ Bk rfl (by decide) (Y (T (Q X 0 Z)) ZS ZL) ZS (cy f' ZS) (by simp[Act.eval]) Z8.y (Q (z (B wr)) 0 Z) 1 1 (du ⟨⟨#[97]⟩,ZA,ZH,0⟩) (by simp[Act.eval]) rfl HN.i (by simp[du,Value.oneCell']) (by omega) (by unfold maxLen;omega) (by omega) (by omega) _ rfl ?_;intro g5 c5 P M C ex JG;have BX:Hid (LBx P (z (B w)) (U nm) (J I ZR) (J I L) (U tx) (Y G H c4) (Y (T (Q X 0 Z)) ZS ZL)):=Z8.bx.ad (C.p _ Z8.bx.lt (λe=>Z8.gne.1 (by simpa[Value.ownBlock] using e.c)));rw[ww f' ZS] at M;have n8:g5=X\/(z (B w))<=g5:=(by rcases ex with h|h;exact .inl (by simpa[Value.ownBlock] using h.c);exact .inr (by omega));have L6:=ae (Z8.setB C M n8 (λj hj=>(by show(if j=ZS then (⟨⟨#[97]⟩,ZA,ZH,0⟩:Link) else f' j).e.size<=5000;split;exact(by decide);exact Z8.nm j (by omega))));obtain⟨-,-,-,-,-,q5⟩:=BX.cells;have qz:=BX.fz 5;have ql:=BX.lt;clear M C ex JG n8);refine⟨⟨g5,ZS+1,c5,_,by omega,L6⟩,?_⟩;have e1:=l.bx.len;have e2:=L6.bx.len;show 300 - oh _ _<300 - oh _ _;rw[e1,e2];omega
   {skip;go_wp2;go_meet;exact⟨_,_,_,_,_,by omega,by omega,l⟩}
 focus
  go_wp2_with fail;refine aI (λV=>ZW V (Q (z (B w)) 5 Z)=T (Y (T (Q g 0 Z)) n c)) 7 (by kernel_rfl) ?_;have o:=ae (A.aa br.drew);clear A;generalize ZO.drew=t at o ⊢;have r:=ae (SB t o.bx)
  iterate 4
   refine aO 0 (v:=?_) rfl rfl (by kernel_rfl) (λ_ _ _ h=>h) rfl ?_ r ?_;rotate_left
   ·(intro wz s0;go_simp)
    (try with_reducible rfl)
   (try simp only[Act.put,yh])
  refine ai (i:=4) rfl (by kernel_rfl) λK q=>?_;go_simp;go_at_call 38;refine(dH R _ _ o.rd (by omega)).P ?_;rintro e D⟨ln,rfl,JK,ZN,O⟩;have l:=ae (o.ac O ZN);clear O ZN o r;have r:=ae (SB D l.bx);refine q _ _ (λ_=>r) ?_;clear q K
  (try simp only[Act.put,yh])
  iterate 2
   refine bV 5 rfl rfl (by kernel_rfl) λK q=>?_;go_simp;refine q _ _ (λ_=>r) ?_;clear q K
   (try simp only[Act.put,yh])
  obtain⟨d0,d1⟩:=cZ (j:=0) l.y ZT (by omega) rfl;rw[QF] at d0 d1;have gl:=l.gne.2.2.2;have Z8:Hid (LStD w0 w R x g (U nm) (J I ZR) (J I L) (U tx) (Y G H c4) (D.setCell (Q g (k*4) Z) (U ln)) _ g n c _):=l.setL (j:=0) (y:={ f k with e:=ln }) (u:=U ln) ZT (by omega) rfl (by show ln.size<=5000;omega)
 rotate_left;have M1:=True.intro;iterate 2
  focus
   go_wp2_with fail;first|(guard_hyp M1;refine aI (λV=>ZW V (Q (z (B w)) 5 Z)=T (Y (T (Q g 0 Z)) n c)/\ZW V (Q g (k*4+1) Z)=T (ZF (f k).ask)) 12 (by kernel_rfl) ?_)|refine aI (λV=>ZW V (Q (z (B w)) 5 Z)=T (Y (T (Q g 0 Z)) n c)/\ZW V (Q g (k*4+2) Z)=T (ZF (f k).has)) 12 (by kernel_rfl) ?_
   have l:=ae (A.aa br.drew);clear A;generalize ZO.drew=t at l ⊢;first|(guard_hyp M1;obtain⟨d0,d1⟩:=cZ (j:=1) l.y ZT (by omega) rfl)|obtain⟨d0,d1⟩:=cZ (j:=2) l.y ZT (by omega) rfl
   first|(guard_hyp M1;have r:Hid (ZW t (Q (z (B w)) 5 Z)=T (Y (T (Q g 0 Z)) n c)/\ZW t (Q g (k*4+1) Z)=T (ZF (f k).ask)):=⟨SB t l.bx,d0⟩)|have r:Hid (ZW t (Q (z (B w)) 5 Z)=T (Y (T (Q g 0 Z)) n c)/\ZW t (Q g (k*4+2) Z)=T (ZF (f k).has)):=⟨SB t l.bx,d0⟩
   clear d0
   iterate 10
    refine aO 0 (v:=?_) rfl rfl (by kernel_rfl) (λ_ _ _ h=>h) rfl ?_ r ?_;rotate_left
    ·(rintro wz⟨s0,s1⟩;go_simp)
     (try with_reducible rfl)
    (try simp only[Act.put,yh])
   iterate 2
    refine bV 10 rfl rfl (by kernel_rfl) λK q=>?_;go_simp;refine q _ _ (λ_=>r) ?_;clear q K
    (try simp only[Act.put,yh])
   have d0:=r.2;have gl:=l.gne.2.2.2;first|(guard_hyp M1;have Z8:Hid (LStD w0 w R x g (U nm) (J I ZR) (J I L) (U tx) (Y G H c4) (t.setCell (Q g (k*4+1) Z) (ZF (!(f k).ask))) _ g n c _):=l.setL (j:=1) (y:={ f k with ask:=!(f k).ask }) (u:=ZF (!(f k).ask)) ZT (by omega) rfl hn1)|have Z8:Hid (LStD w0 w R x g (U nm) (J I ZR) (J I L) (U tx) (Y G H c4) (t.setCell (Q g (k*4+2) Z) (ZF (!(f k).has))) _ g n c _):=l.setL (j:=2) (y:={ f k with has:=!(f k).has }) (u:=ZF (!(f k).has)) ZT (by omega) rfl hn1
  rotate_left
 focus
  go_wp2_with fail;refine aI (λV=>ZW V (Q (z (B w)) 5 Z)=T (Y (T (Q g 0 Z)) n c)/\ZW V (Q g (k*4+3) Z)=T (J I (f k).G)) 17 (by kernel_rfl) ?_;have o:=ae (A.aa br.drew);clear A;generalize ZO.drew=t at o ⊢;have r:Hid (ZW t (Q (z (B w)) 5 Z)=T (Y (T (Q g 0 Z)) n c)/\ZW t (Q g (k*4+3) Z)=T (J I (f k).G)):=⟨SB t o.bx,(cZ (j:=3) o.y ZT (by omega) rfl).1⟩
  iterate 10
   refine aO 0 (v:=?_) rfl rfl (by kernel_rfl) (λ_ _ _ h=>h) rfl ?_ r ?_;rotate_left
   ·(rintro wz⟨s0,s1⟩;go_simp)
    (try with_reducible rfl)
   (try simp only[Act.put,yh])
  refine aO 11 (v:=?_) rfl rfl (by kernel_rfl) (λ_ _ _ h=>h) rfl ?_ r ?_;rotate_left
  ·(rintro wz⟨s0,s1⟩;go_simp)
   (try with_reducible rfl)
  (try simp only[Act.put,yh])
  generalize IntKind.i64.wrap ((f k).G+1)=ax;refine pr (i:=10) (j:=12) rfl rfl (by kernel_rfl) (λK q=>?_) λK q=>?_
  focus
   go_simp;have A4:=(BS t).alloc ly (N #[J I (-1),J I 0,J I ax,J I 400] 3);have HL:Hid ((ZV t (N #[J I (-1),J I 0,J I ax,J I 400] 3)).heap[z (B t)]?=T (N #[J I (-1),J I 0,J I ax,J I 400] 3 (0,0))):=gM t _;have l:=ae (o.aa A4);have ro:=o.lt;have n9:=o.hbw;have sm:=o.hR;have th:=o.hb;have ph:z (B t)≠R:=by omega
   clear A4 r ro n9 sm th;generalize World.alloc t _=D at l HL ⊢;generalize (z (B t))=Fk at HL ph ⊢;have r:Hid (ZW D (Q (z (B w)) 5 Z)=T (Y (T (Q g 0 Z)) n c)/\ZW D (Q g (k*4+3) Z)=T (J I (f k).G)):=⟨SB D l.bx,(cZ (j:=3) l.y ZT (by omega) rfl).1⟩
   refine q _ _ (λ_=>r) ?_;clear q K
   (try simp only[Act.put,yh])
   refine ai (i:=12) rfl (by kernel_rfl) λK q=>?_;go_simp;go_at_call 25;refine(ay R _ 4 _ l.rd (by omega) (by omega) (by omega)).P ?_;rintro e P⟨z4,rfl,mv,JH,ZN,O⟩;obtain⟨m,rfl⟩:=p9 mv;have hm:m<4:=by omega
   have Z8:=ae (l.ac O ZN);have HL:=ae ((O.p Fk (aj HL) ph).k HL);clear O ZN l r;have r:Hid (ZW P (Q (z (B w)) 5 Z)=T (Y (T (Q g 0 Z)) n c)/\ZW P (Q g (k*4+3) Z)=T (J I (f k).G)):=⟨SB P Z8.bx,(cZ (j:=3) Z8.y ZT (by omega) rfl).1⟩
   refine q _ _ (λ_=>r) ?_;clear q K
   (try simp only[Act.put,yh])
  rotate_left
  focus
   go_simp;go_at_call 25;refine(ay R _ 4 _ o.rd (by omega) (by omega) (by omega)).P ?_;rintro e D⟨z4,rfl,mv,JH,ZN,O⟩;obtain⟨m,rfl⟩:=p9 mv;have hm:m<4:=by omega
   have l:=ae (o.ac O ZN);clear O ZN o r;have r:Hid (ZW D (Q (z (B w)) 5 Z)=T (Y (T (Q g 0 Z)) n c)/\ZW D (Q g (k*4+3) Z)=T (J I (f k).G)):=⟨SB D l.bx,(cZ (j:=3) l.y ZT (by omega) rfl).1⟩
   refine q _ _ (λ_=>r) ?_;clear q K
   (try simp only[Act.put,yh])
   refine ai (i:=10) rfl (by kernel_rfl) λK q=>?_;go_simp;have A4:=(BS D).alloc ly (N #[J I (-1),J I 0,J I ax,J I 400] 3);have HL:Hid ((ZV D (N #[J I (-1),J I 0,J I ax,J I 400] 3)).heap[z (B D)]?=T (N #[J I (-1),J I 0,J I ax,J I 400] 3 (0,0))):=gM D _;have Z8:=ae (l.aa A4);have ro:=l.lt;have n9:=l.hbw;have sm:=l.hR;have th:=l.hb;have ph:z (B D)≠R:=by omega
   clear A4 r ro n9 sm th;generalize World.alloc D _=P at Z8 HL ⊢;generalize (z (B D))=Fk at HL ph ⊢;have r:Hid (ZW P (Q (z (B w)) 5 Z)=T (Y (T (Q g 0 Z)) n c)/\ZW P (Q g (k*4+3) Z)=T (J I (f k).G)):=⟨SB P Z8.bx,(cZ (j:=3) Z8.y ZT (by omega) rfl).1⟩
   refine q _ _ (λ_=>r) ?_;clear q K
   (try simp only[Act.put,yh])
  all_goals
   have l:=Z8;clear Z8;obtain⟨zz,hzz⟩:=Gn HL m hm
   iterate 4
    refine bV 13 rfl rfl (by kernel_rfl) λK q=>?_;go_simp;refine q _ _ (λ_=>r) ?_;clear q K
    (try simp only[Act.put,yh])
   have d0:=r.2;have d1:=(cZ (j:=3) l.y ZT (by omega) rfl).2;have gl:=l.gne.2.2.2;have Z8:Hid (LStD w0 w R x g (U nm) (J I ZR) (J I L) (U tx) (Y G H c4) (P.setCell (Q g (k*4+3) Z) (J I zz)) _ g n c _):=l.setL (j:=3) (y:={ f k with G:=zz }) (u:=J I zz) ZT (by omega) rfl hn1
 all_goals
  refine bV 0 rfl rfl (by kernel_rfl) λK q=>?_;go_simp;refine q _ _ (λh=>absurd rfl h) ?_;clear q K r
  (try simp only[Act.put,yh])
  refine ba (by kernel_rfl) ?_ _;clear d0 d1 gl l;go_wp2;go_meet;exact⟨_,_,_,_,_,by omega,by omega,Z8⟩
abbrev DC (V:E)(g q:Nat)(d:au)(ga ca gl cl:Nat):Prop:=ZW V (Q g q Z)=T (U d.e)/\ZW V (Q g (q+1) Z)=T (J I d.m)/\ZW V (Q g (q+2) Z)=T (J I d.M)/\ZW V (Q g (q+3) Z)=T (U d.H)/\ZW V (Q g (q+4) Z)=T (Y (T (Q ga 0 Z)) d.h ca)/\ZW V (Q g (q+5) Z)=T (Y (T (Q gl 0 Z)) d.f cl)
def Gp{s0 s1 g f:F_}{fz:Nat × Nat}(h:w.heap[b]?=T (N #[U s0,U s1,U g,U f] t fz))(m:s0.size<=5000)(h1:s1.size<=5000)(h2:g.size<=5000)(i:f.size<=5000)(k:Nat)(l:k<4):∃s:F_,s.size<=5000/\ZW w (Q b k Z)=T (U s):=by
 match k,l with
 |0,_=>exact⟨s0,m,by simp[World.cell?,h]⟩
 |1,_=>exact⟨s1,h1,by simp[World.cell?,h]⟩
 |2,_=>exact⟨g,h2,by simp[World.cell?,h]⟩
 |3,_=>exact⟨f,i,by simp[World.cell?,h]⟩
 |j+4,h5=>exact absurd h5 (by omega)
def DP.up{q lo:Nat}{e:Ending}{w':E}(h:DP w R q lo n e w')(hn:n<=m):DP w R q lo m e w':=by obtain⟨L,g,c,h1,h2,b,f,i⟩:=h;exact⟨L,g,c,h1,h2,b,nX f hn,i⟩
def Dq{K:Nat}{f p ga ca:Nat}{r:DR}(h:DSub W f r)(q:r.2.1=Y (T (Q ga 0 Z)) r.1.h ca)(hR:Rd W R p)(g:p<=20000)(j:FitK K r.1)(hK:K<=80):Calls Tryz.prog 66 #[.pointer (T (Q R 0 Z)),ZJ #[Y (T (Q ga 0 Z)) r.1.h ca]] W λe o=>DP W R (p+1000) 0 (200+K+1) e o:=by
 by_cases i:r.1.h=0;{rw[i];exact(xB R p ga ca W hR g).P λ_ _ h=>h.up (by omega)}
 ·obtain⟨a,j_,e,n⟩:=h.ins;rw[q] at e;obtain⟨rfl,-,-⟩:=T6 e;rcases n with h1|⟨b,off,l,m⟩
  {exact absurd h1 i}
  ·cases l
   exact nY (200+K) ⟨by omega,by omega⟩ R p ga ca r.1.h r.1.u W hR g m ⟨by omega,j.an⟩ j.asz
section
variable {K:Nat}{w W:E}{R X q c g k ga ca gl cl:Nat}{D:List DR}{r:DR}
def SpS.dc (h:SpS K w R X W q (T (Q g 0 Z)) c D)(b:D[k]?=T r)(i:r.2.1=Y (T (Q ga 0 Z)) r.1.h ca)(f:r.2.2=Y (T (Q gl 0 Z)) r.1.f cl):ZW W (Q X 0 Z)=T (Y (T (Q g 0 Z)) (ZU D) c)/\DC W g (k*6) r.1 ga ca gl cl:=
 ⟨h.ab.1,(h.G (j:=0) b (by omega) rfl).1,(h.G (j:=1) b (by omega) rfl).1,(h.G (j:=2) b (by omega) rfl).1,(h.G (j:=3) b (by omega) rfl).1,(h.G (j:=4) b (by omega) (by rw[<-i];rfl)).1,(h.G (j:=5) b (by omega) (by rw[<-f];rfl)).1⟩
def FzC (W:E)(g i:Nat):Prop:=ZX W (Q g i Z)=ZA/\∃u,ZW W (Q g i Z)=T u
def SpS.fz6 (h:SpS K w R X W q (T (Q g 0 Z)) c D)(i:D[k]?=T r):FzC W g (k*6)/\FzC W g (k*6+1)/\FzC W g (k*6+2)/\FzC W g (k*6+3)/\FzC W g (k*6+4)/\FzC W g (k*6+5):=by
 have f:∀j,j<6->FzC W g (k*6+j):=λj b=>by have h:=h.G (j:=j) i b (gq (show j<(ddV r).length from b));exact⟨h.2,_,h.1⟩
 exact⟨f 0 (by omega),f 1 (by omega),f 2 (by omega),f 3 (by omega),f 4 (by omega),f 5 (by omega)⟩
end
def ts (JP:GL)(K0 ZL:Nat)(hK0:K0+1<=ZL)(hKK:ZL<=50)(R p:Nat)(a:O_)(n j_:Nat)(f:Nat->au)(w:E)(hf:SlDeed w a n f)(J7:∀i,i<n->FitK K0 (f i))(hn:n<=450+K0)(hR:Rd w R p)(hp:p<=19000):Calls Tryz.prog 26 #[.pointer (T (Q R 0 Z)),ZJ #[Y a n j_]] w λe w'=>DAK ZL w R (p+1100) e w':=by
 have LL:=ae JP;clear JP;have HF:=ae hf;have Ke:=ae J7;have HR:=ae hR;have Kf:=hR.lt;clear hf J7 hR;have A0:=ae (((BS w).alloc ly (N #[Y a n j_] 25)).alloc (by simp) (N #[Y Z 0 0] 25));have J5:Hid ((ZV (ZV w (N #[Y a n j_] 25)) (N #[Y Z 0 0] 25)).heap[z (B w)+1]?=T (N #[Y Z 0 0] 25 (0,0))):=by have h:=gM (ZV w (N #[Y a n j_] 25)) (N #[Y Z 0 0] 25);rw[show(z (B (ZV w (N #[Y a n j_] 25))))=z (B w)+1 by simp] at h;exact h
 have aq:z (B (ZV (ZV w (N #[Y a n j_] 25)) (N #[Y Z 0 0] 25)))=z (B w)+2:=by simp
 go_enter func26,ntmps26;go_wp2_with fail;generalize World.alloc (World.alloc w _) _=W0 at A0 J5 aq ⊢;refine(AV a n j_ f _ (by omega) (HF.aa A0 ly) (λi hi=>((Ke i hi).d (by omega)).fits)).P ?_;rintro e w1⟨a1,c1,D,rfl,hD,GS,J6,DE⟩;have la:=ae J6;have Kr:=ae hD.up;clear J6;have hl:ZU D=n:=by have:=xT List.length GS;simpa using this
 have th:Hid (∀r∈D,FitK K0 r.1):=λr hr=>by have hm:r.1∈D.map (·.1):=NN.2 ⟨r,hr,rfl⟩;rw[GS] at hm;obtain⟨i,hi,e⟩:=NN.1 hm;rw[<-e];exact Ke i (E4.1 hi)
 have Kp:=DE.size;have B2:=(BS w1).alloc ly (N #[Y a1 (ZU D) c1] 25);have S1:Hid (SpS ZL w R (z (B w1)) (ZV w1 (N #[Y a1 (ZU D) c1] 25)) p a1 c1 D):=by have O1:zd R w w1:=(zd.q A0).k (zd.q (DE.P (by omega)));exact⟨((HR.aa A0 ly).aa DE (by omega)).aa B2 ly,O1.k (zd.q B2),(B2.p _ (by omega)).k ((DE.p _ (by omega)).k J5),gM w1 _,((hD.rw.aa B2 ly).P (by omega)),λr hr=>(th r hr).up (by omega),Kf,by omega,by omega⟩
 have hX:z (B w)+2<=z (B w1):=by omega
 have hD9:ZU D<=450+K0:=by omega
 clear hD DE B2 Kp aq A0 J5 HF Ke HR GS hl;go_upto_region 2 with fail;generalize World.alloc w1 _=W1 at S1 ⊢;generalize (z (B w1))=X at S1 hX ⊢;have bx:=S1.ab.1;by_cases hz:ZU D=0
 ·obtain rfl:D=[]:=VJ.1 hz;rw[IS] at bx;clear hz;go_wp2_with fail;refine(ay R _ 2 _ S1.rd (by omega) (by omega) (by omega)).P ?_;rintro e w2⟨x,rfl,x0,x1,Bk,DQ⟩;have H:=ae (S1.ac DQ Bk);clear DQ Bk S1 bx;go_wp2_with fail;refine(ay R _ 3 _ H.rd (by omega) (by omega) (by omega)).P ?_;rintro e M⟨y,rfl,y0,y1,Fk,At⟩;have l:=ae (H.ac At Fk);clear At Fk H;obtain⟨m,hm⟩:∃m:Nat,400*x+y=(m:Int):=⟨(400*x+y).toNat,by omega⟩
  have Ln:IntKind.i64.wrap (400*x)=400*x:=by rw[nL];omega
  have Lp:m<=450:=by omega
  have hw2:IntKind.i64.wrap (m:Int)=(m:Int):=by rw[nL];omega
  have hmk:=λw=>Iy m (by omega) w;have rs:=l.rs;have r0:ZW M (Q (z (B w)+1) 0 Z)=T (Y Z 0 0):=by simp[World.cell?,rs]
  have f0:ZX M (Q (z (B w)+1) 0 Z)=ZA:=by simp[World.frozen?,rs]
  have l0:=aj rs;have FN:=ae (Dc (m:=m) (ZP:=p+1100) l Lp (by omega));clear rs;go_wp2;exact bp (v:=ZJ #[Y (T (Q (z (B M)) 0 Z)) m m]) (by simp[results,results26,go_sem,r0,l0]) rfl FN.i
 obtain⟨g,LI,e⟩:=dr S1.row.y (by omega);obtain⟨rfl,-,-⟩:=T6 e;clear e LI;have nz:¬ ((ZU D:Int)=0):=by omega
 go_wp2_with fail;refine(ay R _ (ZU D:Int) _ S1.rd (by omega) (by omega) (by omega)).P ?_;rintro e w2⟨ZZ,rfl,aq,n8,Bk,DQ⟩;obtain⟨k,rfl⟩:=p9 aq;have hk:k<ZU D:=by omega
 have S0:=ae (S1.ac DQ Bk);clear DQ Bk S1 aq n8 bx;obtain⟨r,hr,hm⟩:=dG hk;have ZM:=ae hr;have HM:=ae hm;clear hr hm;go_wp2_with fail;refine(ay R _ 13 _ S0.rd (by omega) (by omega) (by omega)).P ?_;rintro e M⟨s,rfl,hs0,Kp,Fk,At⟩;have H:=ae (S0.ac At Fk);clear At Fk S0;have JK:=th r HM;have P:=JK.up (show K0<=ZL by omega);have htx:=JK.tx;have LH:=JK.ln;go_upto_block 0 with fail;go_cut [8,9,10,11,12] (λ_ _ _ _ _ wx=>∃(a':O_) (c' q':Nat) (D':List DR),q'<=p+1100/\Hid (SpS ZL w R X wx q' a' c' D'));case first =>
  rcases(show(s=0\/s=1\/s=2\/s=3\/s=4\/s=5)\/(s=6\/s=7\/s=8)\/s=9\/s=10\/s=11\/s=12 by omega) with (h|h|h|h|h|h)|h6|rfl|rfl|rfl|rfl;rotate_left 6
  ·as_aux_lemma =>
    obtain⟨⟨ga,ca,ea⟩,gl,cl,el⟩:=la.i r HM;have EA:=ae ea;have EL:=ae el;clear ea el;rcases h6 with rfl|rfl|rfl;iterate 3
     ·go_wp2_with fail
      refine aI (λV=>ZW V (Q X 0 Z)=T (Y (T (Q g 0 Z)) (ZU D) c1)/\DC V g (k*6) r.1 ga ca gl cl) 11 (by kernel_rfl) ?_;have l:=ae (H.aa br.drew);clear H;generalize M.drew=ZT at l ⊢;have Z8:=ae (l.dc ZM EA EL)
      iterate 9
       refine aO 0 (v:=?_) rfl rfl (by kernel_rfl) (λ_ _ _ h=>h) rfl ?_ Z8 ?_;rotate_left
       ·(rintro wz⟨s0,s1,s2,s3,s4,s5,s6⟩;go_simp)
        (try with_reducible rfl)
       (try simp only[Act.put,yh])
      refine ai (i:=9) rfl (by kernel_rfl) λK A=>?_;go_simp;go_at_call 67;refine(qV (200+K0) ⟨by omega,by omega⟩ w R _ (z (B w)+2) gl cl r.1.f r.1.l r.1.e r.1.H r.1.m r.1.M (T (Q ga 0 Z)) r.1.h ca _ l.o Kf (by omega) (by have:=l.lt;omega) l.rd (by omega) (by rw[<-EL.i];exact(l.row.sub r HM).az) LH P.lsz).P ?_;rintro e ZQ⟨g5,n5,c5,f5,rfl,Kd,J0,KP,⟨q5,hq5,KT⟩,Kt,fd⟩;obtain⟨kX,kg,KJ⟩:=l.kept HM EL fd;have ZN:Hid (SpS ZL w R X (jm ZQ g k ({ r.1 with f:=n5,l:=f5 },Y (T (Q ga 0 Z)) r.1.h ca,Y (T (Q g5 0 Z)) n5 c5)) q5 (T (Q g 0 Z)) c1 _):=l.deed Kr ZM HM EL KT Kt fd _ ⟨l.actK HM EA EL fd,Kd⟩ ⟨P.nm,P.tx,P.an,P.asz,by show n5<=200+ZL;omega,KP⟩;have F4:Hid (∀j,j<6->ZX ZQ (Q g (k*6+j) Z)=ZA):=λj hj=>(NG (a:=(Q g (k*6+j) Z)) kg).k (l.G (j:=j) ZM hj (gq (show j<(ddV r).length from hj))).2;have ro:Hid (ZW ZQ (Q X 0 Z)=T (Y (T (Q g 0 Z)) (ZU D) c1)/\DC ZQ g (k*6) r.1 ga ca gl cl):=⟨(cq (a:=(Q X 0 Z)) kX).k Z8.1,(cq (a:=(Q g (k*6) Z)) kg).k Z8.2.1,(cq (a:=(Q g (k*6+1) Z)) kg).k Z8.2.2.1,(cq (a:=(Q g (k*6+2) Z)) kg).k Z8.2.2.2.1,(cq (a:=(Q g (k*6+3) Z)) kg).k Z8.2.2.2.2.1,(cq (a:=(Q g (k*6+4) Z)) kg).k Z8.2.2.2.2.2.1,(cq (a:=(Q g (k*6+5) Z)) kg).k Z8.2.2.2.2.2.2⟩
      clear KT Kt fd Kd KP kX kg Z8 l;have Z8:=ro;clear ro;refine A _ _ (λ_=>Z8) ?_;clear A K
      (try simp only[Act.put,yh])
      refine ai (i:=10) rfl (by kernel_rfl) λK A=>?_;go_simp;refine A _ _ (λ_=>Z8) ?_;clear A K
      (try simp only[Act.put,yh])
      obtain⟨-,d0,d1,d2,d3,d4,d5⟩:=Z8.i;have y0:=F4.i 0 (by omega);have y1:=F4.i 1 (by omega);have y2:=F4.i 2 (by omega);have y3:=F4.i 3 (by omega);have y4:=F4.i 4 (by omega);have y5:=F4.i 5 (by omega);rw[QF] at y0;refine ai (i:=11) rfl (by kernel_rfl) λK A=>?_;go_simp;refine A _ _ (λh=>absurd rfl h) ?_;clear A K Z8
      (try simp only[Act.put,yh])
      refine ba (by kernel_rfl) ?_ _;clear d0 d1 d2 d3 d4 d5 y0 y1 y2 y3 y4 y5;go_wp2;go_meet;exact⟨_,_,_,_,by omega,ZN⟩
  ·skip;by_cases LM:(0:Int)<(k:Int)
   ·obtain⟨m,rfl⟩:∃m,k=m+1:=⟨k - 1,by omega⟩
    have h1l:(1:Int)<(ZU D:Int):=by omega
    obtain⟨r1,Lc,JT⟩:=dG (R:=D) (i:=m) (by omega);have Kj:=ae Lc;have Kc:=ae JT;clear Lc JT;obtain⟨⟨ga,ca,ea⟩,gl,cl,el⟩:=la.i r HM;obtain⟨⟨gb,cb,eb⟩,gm,cm,em⟩:=la.i r1 Kc;have EA:=ae ea;have EL:=ae el;have EB:=ae eb;have EM:=ae em;clear ea el eb em;have Lm:=((th r1 Kc).up (show K0<=ZL by omega))
    have bx:=H.ab.1;have C2:=ae (H.dc ZM EA EL).2;obtain⟨e0,e1,e2,e3,e4,e5⟩:=C2.i;have AB:=ae ((BS M).alloc ly (N #[U r.1.e,J I r.1.m,J I r.1.M,U r.1.H,Y (T (Q ga 0 Z)) r.1.h ca,Y (T (Q gl 0 Z)) r.1.f cl] 58));have YB:=ae (gM M (N #[U r.1.e,J I r.1.m,J I r.1.M,U r.1.H,Y (T (Q ga 0 Z)) r.1.h ca,Y (T (Q gl 0 Z)) r.1.f cl] 58));have l:=ae (H.aa AB);have hwm:IntKind.i64.wrap (((m+1:Nat):Int) - 1)=(m:Int):=by rw[nL];omega
    have hwm2:IntKind.i64.wrap (m:Int)=(m:Int):=by rw[nL];omega
    have hml:m<ZU D:=by omega
    have LA:(m:Int)+1<(ZU D:Int):=by omega
    have hk2:(0:Int)<=(m:Int)+1:=by omega
    have LU:((m:Int)+1).toNat=m+1:=by omega
    go_upto_region 41 with fail;generalize World.alloc M _=v2 at l YB ⊢;have Kx:z (B M)≠g:=by have:=H.gb.2.1;omega
    generalize (z (B M))=yb at YB Kx ⊢;clear bx e0 e1 e2 e3 e4 e5 C2 AB H;refine aI (λV=>ZW V (Q X 0 Z)=T (Y (T (Q g 0 Z)) (ZU D) c1)/\DC V g (m*6) r1.1 gb cb gm cm) 10 (by kernel_rfl) ?_;have C:=ae (l.aa br.drew);have J8:Hid (v2.drew.heap[yb]?=T (N #[U r.1.e,J I r.1.m,J I r.1.M,U r.1.H,Y (T (Q ga 0 Z)) r.1.h ca,Y (T (Q gl 0 Z)) r.1.f cl] 58 (0,0))):=YB.i;clear l YB;generalize v2.drew=ZT at C J8 ⊢;have Z8:=ae (C.dc Kj EB EM);iterate 9
     refine aO 0 (v:=?_) rfl rfl (by kernel_rfl) (λ_ _ _ h=>h) rfl ?_ Z8 ?_;rotate_left
     ·(rintro wz⟨s0,s1,s2,s3,s4,s5,s6⟩;go_simp)
      (try with_reducible rfl)
     (try simp only[Act.put,yh])
    refine ai (i:=9) rfl (by kernel_rfl) λK A=>?_;go_simp;refine A _ _ (λ_=>Z8) ?_;clear A K
    (try simp only[Act.put,yh])
    obtain⟨⟨y0,u0,d0⟩,⟨y1,u1,d1⟩,⟨y2,u2,d2⟩,⟨y3,u3,d3⟩,⟨y4,u4,d4⟩,y5,u5,d5⟩:=C.fz6 ZM;have KJ:=C.gb.2.1;have ZN:=ae (C.six ZM (r1.1,Y (T (Q gb 0 Z)) r1.1.h cb,Y (T (Q gm 0 Z)) r1.1.f cm) ((C.row.sub r1 Kc).form EB EM) Lm);have J4:=ae ((fF ZT g (m+1) yb (r1.1,Y (T (Q gb 0 Z)) r1.1.h cb,Y (T (Q gm 0 Z)) r1.1.f cm) Kx).k J8);have T5:Hid (DSub (jm ZT g (m+1) (r1.1,Y (T (Q gb 0 Z)) r1.1.h cb,Y (T (Q gm 0 Z)) r1.1.f cm)) (z (B w)+2) (r.1,Y (T (Q ga 0 Z)) r.1.h ca,Y (T (Q gl 0 Z)) r.1.f cl)):=by obtain⟨cs,ZZ,hg⟩:=C.gb.2.2.2;exact((C.row.sub r HM).form EA EL).six hg
    unfold jm at ZN J4 T5;refine ai (i:=10) rfl (by kernel_rfl) λK A=>?_;go_simp;refine A _ _ (λh=>absurd rfl h) ?_;clear A K Z8
    (try simp only[Act.put,yh])
    refine ba (by kernel_rfl) ?_ _;clear d0 d1 d2 d3 d4 d5 y0 y1 y2 y3 y4 y5 KJ C J8;go_upto_region 42 with fail;generalize World.setCell (World.setCell (World.setCell (World.setCell (World.setCell (World.setCell ZT _ _) _ _) _ _) _ _) _ _) _ _=v5 at ZN J4 T5 ⊢;have ld:Hid ((D.set (m+1) (r1.1,Y (T (Q gb 0 Z)) r1.1.h cb,Y (T (Q gm 0 Z)) r1.1.f cm))[m]?=T r1):=by show _=_;rw[Q2 (by omega)];exact Kj
    have ZO:=ae (ZN.six ld (r.1,Y (T (Q ga 0 Z)) r.1.h ca,Y (T (Q gl 0 Z)) r.1.f cl) T5 P);have bx:=ZN.ab.1;rw[NJ] at bx;have L:=J4.i;have q0:ZW v5 (Q yb 0 Z)=T (U r.1.e):=by simp[World.cell?,L]
    have q1:ZW v5 (Q yb 1 Z)=T (J I r.1.m):=by simp[World.cell?,L]
    have q2:ZW v5 (Q yb 2 Z)=T (J I r.1.M):=by simp[World.cell?,L]
    have q3:ZW v5 (Q yb 3 Z)=T (U r.1.H):=by simp[World.cell?,L]
    have q4:ZW v5 (Q yb 4 Z)=T (Y (T (Q ga 0 Z)) r.1.h ca):=by simp[World.cell?,L]
    have q5:ZW v5 (Q yb 5 Z)=T (Y (T (Q gl 0 Z)) r.1.f cl):=by simp[World.cell?,L]
    obtain⟨⟨y0,u0,d0⟩,⟨y1,u1,d1⟩,⟨y2,u2,d2⟩,⟨y3,u3,d3⟩,⟨y4,u4,d4⟩,y5,u5,d5⟩:=ZN.fz6 ld;have gl5:=ZN.gb.2.1;clear L ZN;go_wp2;go_meet;exact⟨_,_,_,_,by omega,ZO⟩
   ·by_cases h1:(1:Int)<(ZU D:Int)
    iterate 2
     ·go_wp2
      go_meet;exact⟨_,_,_,_,by omega,H⟩
  ·as_aux_lemma =>
    have hcap:=jY H.row.y;obtain⟨JQ,hj,aq,n8,JI⟩:=NP gC;have Ln:IntKind.i64.wrap ((k:Int)+1)=(k:Int)+1:=by rw[nL];omega
    have LA:(k:Int)+1<=(ZU D:Int):=by omega
    have LU:((k:Int)+1).toNat=k+1:=by omega
    have hkc:(k:Int)<=(c1:Int):=by omega
    have LM:(0:Int)<=(k:Int)+1:=by omega
    obtain⟨A2,LX,Kh⟩:=Au (base:=z (B w)+2) (g:=g) (c:=c1) hk (by omega);have Lj:=ae Kh;clear Kh;go_wp2_with fail;refine aI (λV=>ZW V (Q X 0 Z)=T (Y (T (Q g 0 Z)) (ZU D) c1)) 13 (by kernel_rfl) ?_;have l:=ae (H.aa br.drew);clear H;generalize M.drew=ZT at l ⊢;have Z8:=ae l.ab.1;iterate 4
     refine aO 1 (v:=?_) rfl rfl (by kernel_rfl) (λ_ _ _ h=>h) rfl ?_ Z8 ?_;rotate_left
     ·(intro wz s0;go_simp)
      (try with_reducible rfl)
     (try simp only[Act.put,yh])
    iterate 5
     refine aO 6 (v:=?_) rfl rfl (by kernel_rfl) (λ_ _ _ h=>h) rfl ?_ Z8 ?_;rotate_left
     ·(intro wz s0;go_simp)
      (try with_reducible rfl)
     (try simp only[Act.put,yh])
    clear LX;refine ai (i:=0) rfl (by kernel_rfl) λK A=>?_;go_simp;have Lb:=l.lt;have LF:=l.hX;have A4:=ae ((BS ZT).alloc ly (N #[] 58));have O4:=ae (OV (base:=z (B w)+2) (e:=58) (size:=6) ZT #[] 0 (by omega) (by unfold maxLen;omega) rfl);have C:=ae (l.aa A4);have ro:=ae C.ab.1;refine A _ _ (λ_=>ro) ?_;clear A K
    (try simp only[Act.put,yh])
    refine ai (i:=5) rfl (by kernel_rfl) (λK A=>?_);refine aU rfl (.tmp 247) (.tmp 251) 23 rfl (z (B w)+2) 58 JQ (ZJ #[U ⟨#[]⟩,J I 0,J I 0,U ⟨#[]⟩,Y Z 0 0,Y Z 0 0]) 6 96 QC hj aq n8 JI rfl (by decide) (Y (T (Q (z (B ZT)) 0 Z)) 0 0) 0 [] (by simp[Act.eval]) O4.i (Q g 0 Z) k c1 ((D.take k).flatMap ddV) (by simp[Act.eval]) (by rw[fA ddV 6 (λ_=>rfl),OD,QM (by omega)]) (Dj k C.row.y) (λu hu=>rV D la u (by obtain⟨ZR,h2,h3⟩:=QR.1 hu;exact QR.2 ⟨ZR,QX h2,h3⟩)) (by unfold maxLen;omega) (by omega) (by simp;omega) ?_;intro v5 w5 ph qr JY;simp only[IT,NS] at ph;have B5:=ae (bg A4 qr (by simp) (λj e=>by simp[Value.ownBlock] at e;omega));have JX:∀j,v5.ownBlock=T j->z (B ZT)<=j:=λj e=>by
     rcases JY with h|h;{rw[h] at e;simp[Value.ownBlock] at e;omega};{rw[h] at e;have:=IH e;simp at this;omega}
    have WB:=ae JX;have O5:=ae ph;have ZN:=ae (l.aa B5);have KQ:=ae ZN.ab.1;clear ph qr JY JX C O4 A4 ro Z8;refine A _ _ (λ_=>KQ) ?_;clear A K
    (try simp only[Act.put,yh])
    obtain⟨a5,c5,rfl⟩:=aJ O5;refine ai (i:=11) rfl (by kernel_rfl) λK A=>?_;refine aU rfl (.tmp 252) (.tmp 257) 23 rfl (z (B w)+2) 58 JQ (ZJ #[U ⟨#[]⟩,J I 0,J I 0,U ⟨#[]⟩,Y Z 0 0,Y Z 0 0]) 6 96 QC hj aq n8 JI rfl (by decide) (Y a5 k c5) k ((D.take k).flatMap ddV) (by simp[Act.eval]) O5.i A2 (ZU D - (k+1)) (c1 - (k+1)) ((D.drop (k+1)).flatMap ddV) (by simp[Act.eval]) (by rw[fA ddV 6 (λ_=>rfl),NO]) (Lj _ ZN.row.y) (λu hu=>rV D la u (by obtain⟨ZR,h2,h3⟩:=QR.1 hu;exact QR.2 ⟨ZR,XE h2,h3⟩)) (by unfold maxLen;omega) (by omega) (by have:=B5.size;omega) ?_;intro v6 w6 bt sm _;have B6:=ae (bg B5 sm (B5.size) (λj e=>WB j e));rw[<-J2] at bt;obtain⟨a6,c6,rfl⟩:=aJ bt;obtain⟨D2,JO⟩:∃D2,D2=D.take k++D.drop (k+1):=⟨_,rfl⟩
    have Hx:ZU D2=k+(ZU D - (k+1)):=by rw[JO,cM,OD,NO,QM (by omega)]
    rw[<-JO,<-Hx] at bt;rw[<-Hx];have ZO:=ae (l.aa B6);have Id:∀ZR∈D2,ZR∈D:=λZR h2=>by rw[JO] at h2;exact(p8.1 h2).elim QX XE
    have S7:=ae (l.box_ B6 bt (λZR h2=>ZO.row.sub ZR (Id ZR h2)) (λZR h2=>ZO.aq ZR (Id ZR h2)) (by omega));clear JO;have JS:=ae ZO.ab;clear bt sm Id Hx ZN O5 WB KQ;refine A _ _ (λ_=>JS.1) ?_;clear A K
    (try simp only[Act.put,yh])
    refine ai (i:=12) rfl (by kernel_rfl) λK A=>?_;go_simp;refine A _ _ (λ_=>JS.1) ?_;clear A K
    (try simp only[Act.put,yh])
    have d0:=JS.1;have d1:=JS.2;have LN:=ZO.lt;refine ai (i:=13) rfl (by kernel_rfl) λK A=>?_;go_simp;refine A _ _ (λh=>absurd rfl h) ?_;clear A K
    (try simp only[Act.put,yh])
    refine ba (by kernel_rfl) ?_ _;clear d0 d1 LN l ZO;go_wp2;go_meet;exact⟨_,_,_,_,by omega,S7⟩
  ·as_aux_lemma =>
    go_wp2_with fail;refine(ay R _ 3 _ H.rd (by omega) (by omega) (by omega)).P ?_;rintro e w4⟨ZZ,rfl,z0,z1,ZS,G⟩;have l:=ae (H.ac G ZS);clear G ZS H;obtain⟨m,hm⟩:∃m:Nat,60+ZZ - 1=(m:Int):=⟨(60+ZZ - 1).toNat,by omega⟩
    go_wp2_with fail;refine(LL m _ (by omega)).P ?_;rintro e w5⟨a5,n5,c5,f5,rfl,KH,JZ,J0,KU⟩;have C:=ae (l.aa JZ);have rs:=C.rs;have r0:ZW w5 (Q (z (B w)+1) 0 Z)=T (Y Z 0 0):=by simp[World.cell?,rs]
    have f0:ZX w5 (Q (z (B w)+1) 0 Z)=ZA:=by simp[World.frozen?,rs]
    have l0:=aj rs;have FN:=ae (l.other (ZP:=p+1100) JZ KH J0 KU (by omega));clear rs JZ KH J0 KU;go_wp2;try simp only[Exit.inBlock,Exit.then]
    exact bp (v:=ZJ #[Y a5 n5 c5]) (by simp[results,results26,go_sem,r0]) rfl FN.i
  ·skip;have AB:=ae ((BS M).alloc ly (N #[U ⟨#[117,110,117,115,101,100]⟩,J I 2,J I 0,U ⟨#[]⟩,Y Z 0 0,Y Z 0 0] 58));have FB:=ae (gM M (N #[U ⟨#[117,110,117,115,101,100]⟩,J I 2,J I 0,U ⟨#[]⟩,Y Z 0 0,Y Z 0 0] 58));have l:=ae (H.aa AB);have KM:z (B w)+2<=z (B M):=by have:=H.lt;omega
   have KV:z (B M)≠X:=by have:=H.lt;omega
   have Ku:z (B M)≠g:=by have:=H.gb.2.1;omega
   go_wp2_with fail;generalize World.alloc M _=v2 at l FB ⊢;generalize (z (B M))=fb at FB KM KV Ku ⊢;clear AB H;go_loopg [10] (ZU D) (λgh i wr=>∃(k2 q2:Nat) (nm tx:F_) (kd:Int),k2+gh=ZU D/\q2<=p+2+k2/\i=J I k2/\nm.size<=5000/\tx.size<=2000+K0/\Hid (SpS ZL w R X wr q2 (T (Q g 0 Z)) c1 D)/\Hid (wr.heap[fb]?=T (N #[U nm,J I kd,J I 0,U tx,Y Z 0 0,Y Z 0 0] 58 (0,0))));case atStart=>exact⟨0,_,_,_,_,by omega,by omega,rfl,by decide,DW _,l,FB⟩
   case round =>
    clear l FB;obtain⟨k2,q2,nm,tx,kd,hg2,hq2,rfl,Kl,Lg,l,FB⟩:=hrel;have hwk:IntKind.i64.wrap ((k2:Int)+1)=(k2:Int)+1:=by rw[nL];omega
    go_upto_region 9 with fail;go_cut [41] (λLr wx=>∃(b1:Bool) (q3:Nat),Lr=ZF b1/\(b1=ZH->k2<ZU D)/\q3<=q2+1/\Hid (SpS ZL w R X wx q3 (T (Q g 0 Z)) c1 D)/\Hid (wx.heap[fb]?=T (N #[U nm,J I kd,J I 0,U tx,Y Z 0 0,Y Z 0 0] 58 (0,0))));case first =>
     by_cases JV:(k2:Int)<(ZU D:Int)
     {go_wp2_with fail;refine(ay R _ 2 _ l.rd (by omega) (by omega) (by omega)).P ?_;rintro e w4⟨ZZ,rfl,z0,z1,ZS,G⟩;have C:=ae (l.ac G ZS);have ur:=ae ((G.p fb (aj FB) (by omega)).k FB);clear G ZS;go_wp2;go_meet;exact⟨_,_,rfl,λ_=>by omega,by omega,C,ur⟩};{go_wp2;go_meet;exact⟨_,_,rfl,λh=>by simp at h,by omega,l,FB⟩}
    case rest =>
    clear l FB;obtain⟨b1,q3,rfl,LQ,hq3,l,FB⟩:=hcut;cases b1 with
    |true =>
     have JV:k2<ZU D:=LQ rfl;obtain⟨ZR,Km,KN⟩:=dG (R:=D) JV;have ld:=ae Km;have Kv:=(th ZR KN)
     clear Km KN;have bx:=l.ab.1;have Ky:=(l.G (j:=1) ld (by omega) rfl).1;by_cases h3:ZR.1.m=3
     ·rw[h3] at Ky;have H3:=ae h3;clear h3;go_wp2;go_roundg (ZU D - 1 - k2);case measure=>omega
      case rel=>exact⟨k2+1,q3,nm,tx,kd,by omega,by omega,by go_num,Kl,Lg,l,FB⟩
     ·have n3:(ZR.1.m == 3)=ZA:=by simpa using h3
      go_upto_region 12 with fail;clear bx Ky;refine aI (λV=>ZW V (Q X 0 Z)=T (Y (T (Q g 0 Z)) (ZU D) c1)/\ZW V (Q g (k2*6) Z)=T (U ZR.1.e)/\ZW V (Q g (k2*6+1) Z)=T (J I ZR.1.m)/\ZW V (Q g (k2*6+3) Z)=T (U ZR.1.H)) 19 (by kernel_rfl) ?_;have C:=ae (l.aa br.drew);have ur:Hid (wc.drew.heap[fb]?=T (N #[U nm,J I kd,J I 0,U tx,Y Z 0 0,Y Z 0 0] 58 (0,0))):=FB.i;clear l FB;generalize wc.drew=ZT at C ur ⊢;have Z8:Hid (ZW ZT (Q X 0 Z)=T (Y (T (Q g 0 Z)) (ZU D) c1)/\ZW ZT (Q g (k2*6) Z)=T (U ZR.1.e)/\ZW ZT (Q g (k2*6+1) Z)=T (J I ZR.1.m)/\ZW ZT (Q g (k2*6+3) Z)=T (U ZR.1.H)):=⟨C.ab.1,by have h:=(C.G (j:=0) ld (by omega) rfl).1;rwa[QF] at h,(C.G (j:=1) ld (by omega) rfl).1,(C.G (j:=3) ld (by omega) rfl).1⟩
      iterate 19
       refine aO 0 (v:=?_) rfl rfl (by kernel_rfl) (λ_ _ _ h=>h) rfl ?_ Z8 ?_;rotate_left
       ·(rintro wz⟨s0,s1,s2,s3⟩;go_simp)
        (try with_reducible rfl)
       (try simp only[Act.put,yh])
      have L:=ur.i;have lf:=aj L;have q0:ZW ZT (Q fb 0 Z)=T (U nm):=by simp[World.cell?,L]
      have q1:ZW ZT (Q fb 1 Z)=T (J I kd):=by simp[World.cell?,L]
      have Lz:ZW ZT (Q fb 2 Z)=T (J I 0):=by simp[World.cell?,L]
      have LP:ZW ZT (Q fb 3 Z)=T (U tx):=by simp[World.cell?,L]
      have q4:ZW ZT (Q fb 4 Z)=T (Y Z 0 0):=by simp[World.cell?,L]
      have q5:ZW ZT (Q fb 5 Z)=T (Y Z 0 0):=by simp[World.cell?,L]
      have z0:∀j,ZX ZT (Q fb j Z)=ZA:=λj=>by simp[World.frozen?,L]
      have ZN:=ae (C.aside KM KV Ku L (U ZR.1.e) (J I ZR.1.m) (J I 0) (U ZR.1.H) (Y Z 0 0) (Y Z 0 0));have Lh:=ae (LBx.six (W:=ZT) (b:=fb) L (U ZR.1.e) (J I ZR.1.m) (J I 0) (U ZR.1.H) (Y Z 0 0) (Y Z 0 0));clear L;refine ai (i:=19) rfl (by kernel_rfl) λK A=>?_;go_simp;refine A _ _ (λh=>absurd rfl h) ?_;clear A K Z8
      (try simp only[Act.put,yh])
      refine ba (by kernel_rfl) ?_ _;clear q0 q1 Lz LP q4 q5 z0 C ur;go_wp2;go_roundg (ZU D - 1 - k2);case measure=>omega
      case rel=>exact⟨k2+1,q3,ZR.1.e,ZR.1.H,ZR.1.m,by omega,by omega,by go_num,Kv.nm,Kv.tx,ZN,Lh⟩
    |false =>
     have L:=FB.i;have lf:=aj L;have e0:ZW wc (Q fb 0 Z)=T (U nm):=by simp[World.cell?,L]
     have e1:ZW wc (Q fb 1 Z)=T (J I kd):=by simp[World.cell?,L]
     have e2:ZW wc (Q fb 2 Z)=T (J I 0):=by simp[World.cell?,L]
     have e3:ZW wc (Q fb 3 Z)=T (U tx):=by simp[World.cell?,L]
     have e4:ZW wc (Q fb 4 Z)=T (Y Z 0 0):=by simp[World.cell?,L]
     have e5:ZW wc (Q fb 5 Z)=T (Y Z 0 0):=by simp[World.cell?,L]
     clear L;have bx:=l.ab.1;have lx:=l.lt;have LF:=l.hX;obtain⟨JQ,hj,aq,n8,JI⟩:=NP gC;have A4:=ae ((BS wc).alloc ly (N #[U nm,J I kd,J I 0,U tx,Y Z 0 0,Y Z 0 0] 58));have O4:Hid ((ZV wc (N #[U nm,J I kd,J I 0,U tx,Y Z 0 0,Y Z 0 0] 58)).ownsRow (z (B w)+2) 58 6 (Y (T (Q (z (B wc)) 0 Z)) 1 1) 1 [U nm,J I kd,J I 0,U tx,Y Z 0 0,Y Z 0 0]):=mL (cs:=#[U nm,J I kd,J I 0,U tx,Y Z 0 0,Y Z 0 0]) (by omega) (by unfold maxLen;omega) rfl;have C:=ae (l.aa A4);have Lq:=C.ab.1;have Ly:=C.ab.2;go_wp2_with (at_builtin;refine DN _ rfl (.tmp 71) (.tmp 73) 23 rfl (z (B w)+2) 58 JQ (ZJ #[U ⟨#[]⟩,J I 0,J I 0,U ⟨#[]⟩,Y Z 0 0,Y Z 0 0]) 6 96 QC hj aq n8 JI rfl (by decide) (Y (T (Q (z (B wc)) 0 Z)) 1 1) 1 [U nm,J I kd,J I 0,U tx,Y Z 0 0,Y Z 0 0] (by simp[Act.eval]) O4.i (Q g 0 Z) (ZU D) c1 (D.flatMap ddV) (by simp[Act.eval]) (fA ddV 6 (λ_=>rfl) D) (λj u hu=>C.row.y.cells (g:=g) rfl j u hu) (rV D la) (by unfold maxLen;omega) (by omega) (by simp;omega) ?_;intro v5 w5 Fm JH Lf;obtain⟨g5,c5,rfl⟩:=dr Fm (by omega);have B5:=ae (bg A4 JH (by simp) (λj e=>by simp[Value.ownBlock] at e;omega));have O5:=ae Fm;have ZN:=ae (l.aa B5);obtain⟨Ll,LV⟩:=ZN.ab;have LB:=ZN.lt;clear Fm JH Lf);obtain⟨D3,mv⟩:∃D3,D3=mJ nm tx kd::D:=⟨_,rfl⟩
     have Kg:ZU D3=1+ZU D:=by rw[mv,vF];omega
     have JL:ZY w5 (z (B w)+2) 58 6 (Y (T (Q g5 0 Z)) (ZU D3) c5) (ZU D3) (D3.flatMap ddV):=by rw[Kg,mv,N9];exact O5
     have ZO:=ae (l.box_ B5 JL (λr6 h6=>by
      rw[mv] at h6;rcases vG.1 h6 with rfl|h6;{exact Gh _ _ _ _ _}
      ·exact ZN.row.sub r6 h6) (λr6 h6=>by
      rw[mv] at h6;rcases vG.1 h6 with rfl|h6;{exact wu kd Kl (by omega)}
      ·exact ZN.aq r6 h6) (by omega))
     have UP:Hid ((D3.map (·.2.2)).Pairwise Apt):=by rw[mv];exact Jd Kr nm tx kd
     have hn3:ZU D3<=450+ZL:=by omega
     rw[<-Kg];generalize World.setCell w5 _ _=v6 at ZO ⊢;clear JL mv Kg O5 B5 ZN C A4 O4 l FB Ll LV LB Lq Ly bx lx e0 e1 e2 e3 e4 e5;go_loopg [11,12] (ZU D3) (λgh i _ wr=>∃(k3:Nat) (D4:List DR),k3+gh=ZU D3/\i=J I k3/\Hid (ZU D4=ZU D3)/\Hid (D4.map (·.2)=D3.map (·.2))/\Hid (SpS ZL w R X wr q3 (T (Q g5 0 Z)) c5 D4));case atStart=>exact⟨0,D3,by omega,rfl,rfl,rfl,ZO⟩
     case round =>
      clear ZO;obtain⟨k3,D4,hg3,rfl,Fd,Kz,S7⟩:=hrel;have LD:ZU D4<=450+ZL:=by have:=Fd.i;omega
      have hwk3:IntKind.i64.wrap ((k3:Int)+1)=(k3:Int)+1:=by rw[nL];have:=Fd.i;omega
      have LC:=S7.ab.1;by_cases JV:(k3:Int)<(ZU D4:Int)
      ·obtain⟨r4,KO,Kk⟩:=dG (R:=D4) (i:=k3) (by omega);have Li:=ae KO;have hln4:=(S7.aq r4 Kk).ln;clear KO Kk;go_wp2_with fail;clear LC;go_loopg [12] r4.1.f (λgh j wr=>∃(j3:Nat) (D5:List DR) (O:DR),j3+gh=r4.1.f/\j=J I j3/\Hid (ZU D5=ZU D4)/\Hid (D5.map (·.2)=D4.map (·.2))/\Hid (D5[k3]?=T O)/\Hid (O.1.f=r4.1.f)/\Hid (SpS ZL w R X wr q3 (T (Q g5 0 Z)) c5 D5));case atStart=>exact⟨0,D4,r4,by omega,rfl,rfl,rfl,Li,rfl,S7⟩
       case round =>
        clear S7;obtain⟨j3,D5,O,hg5,rfl,JJ,JN,n9,ex,S8⟩:=hrel;have Ls:k3<ZU D5:=by have:=JJ.i;omega
        have Ks:=I5 n9.i;have JW:=ae Ks;clear Ks;have hln5:O.1.f<=200+ZL:=by have:=ex.i;omega
        have hwj3:IntKind.i64.wrap ((j3:Int)+1)=(j3:Int)+1:=by rw[nL];have:=ex.i;omega
        obtain⟨al,cl,el⟩:=lQ (S8.row.sub O JW).az;have EL:=ae el;have Lu:=S8.ab.1;have LJ:_=T (Value.slice al O.1.f cl):=(S8.G (j:=5) n9 (by omega) (by rw[<-el];rfl)).1;clear el;by_cases hjl:(j3:Int)<(O.1.f:Int)
        ·have JM:j3<O.1.f:=by omega
         obtain⟨gl,Lo,e2⟩:=dr (S8.row.sub O JW).az (by omega);rw[EL.i] at e2;obtain⟨rfl,-,-⟩:=T6 e2;clear e2 Lo;have OL:Hid (∀V q,SpS ZL w R X V q (T (Q g5 0 Z)) c5 D5->ZY V (z (B w)+2) 74 4 (Y (T (Q gl 0 Z)) O.1.f cl) O.1.f (cy O.1.l O.1.f)):=λV q hV=>by rw[<-EL.i];exact(hV.row.sub O JW).az
         have ak:=(cZ (j:=1) (OL _ _ S8) JM (by omega) rfl).1;cases hask:(O.1.l j3).ask with
         |false =>
          rw[hask] at ak;clear hask;go_wp2;go_roundg (r4.1.f - 1 - j3);case measure=>have:=ex.i;omega
          case rel=>exact⟨j3+1,D5,O,by have:=ex.i;omega,by go_num,JJ,JN,n9,ex,S8⟩
         |true =>
          rw[hask] at ak;clear hask;go_upto_region 21 with fail;clear Lu LJ ak;refine aI (λV=>ZW V (Q X 0 Z)=T (Y (T (Q g5 0 Z)) (ZU D5) c5)/\ZW V (Q g5 (k3*6+5) Z)=T (Y (T (Q gl 0 Z)) O.1.f cl)/\ZW V (Q gl (j3*4+3) Z)=T (J I (O.1.l j3).G)) 20 (by kernel_rfl) ?_;have S9:=ae (S8.aa br.drew);clear S8;generalize wr.drew=v8 at S9 ⊢;have Z8:Hid (ZW v8 (Q X 0 Z)=T (Y (T (Q g5 0 Z)) (ZU D5) c5)/\ZW v8 (Q g5 (k3*6+5) Z)=T (Y (T (Q gl 0 Z)) O.1.f cl)/\ZW v8 (Q gl (j3*4+3) Z)=T (J I (O.1.l j3).G)):=⟨S9.ab.1,(S9.G (j:=5) n9 (by omega) (by rw[<-EL.i];rfl)).1,(cZ (j:=3) (OL _ _ S9) JM (by omega) rfl).1⟩
          iterate 18
           refine aO 0 (v:=?_) rfl rfl (by kernel_rfl) (λ_ _ _ h=>h) rfl ?_ Z8 ?_;rotate_left
           ·(rintro wz⟨s0,s1,s2⟩;go_simp)
            (try with_reducible rfl)
           (try simp only[Act.put,yh])
          generalize IntKind.i64.wrap ((O.1.l j3).G+1)=zz;iterate 2
           refine bV 18 rfl rfl (by kernel_rfl) λK A=>?_;go_simp;refine A _ _ (λ_=>Z8) ?_;clear A K
           (try simp only[Act.put,yh])
          have d0:=Z8.2.2;have d1:=(cZ (j:=3) (OL _ _ S9) JM (by omega) rfl).2;have LG:=((OL _ _ S9).lt gl rfl).2;have Kn:(D5.map (·.2.2)).Pairwise Apt:=by
           have e3:D5.map (·.2.2)=D3.map (·.2.2):=by have e4:=xT (List.map Prod.snd) (JN.k Kz);rw[List.map_map,List.map_map] at e4;exact e4
           rw[e3];exact UP
          have Lt:=ae (S9.az Kn n9 EL JM zz);clear Kn;refine ai (i:=20) rfl (by kernel_rfl) λK A=>?_;go_simp;refine A _ _ (λh=>absurd rfl h) ?_;clear A K Z8
          (try simp only[Act.put,yh])
          refine ba (by kernel_rfl) ?_ _;clear d0 d1 LG S9;go_wp2;go_roundg (r4.1.f - 1 - j3);case measure=>have:=ex.i;omega
          case rel=>exact⟨j3+1,D5.set k3 (atD O.1 j3 zz,O.2),(atD O.1 j3 zz,O.2),by have:=ex.i;omega,by go_num,NJ.k JJ,(Gg n9 _).k JN,PH Ls,ex,Lt⟩
        ·go_wp2;go_roundg (ZU D3 - 1 - k3);case measure=>have:=Fd.i;omega
         case rel=>exact⟨k3+1,D5,by have:=Fd.i;omega,by go_num,JJ.k Fd,JN.k Kz,S8⟩
      {go_wp2;go_meet;exact⟨_,_,_,_,by omega,S7⟩}
  all_goals
   as_aux_lemma =>
    first
     |have e:s=0:=h
      subst e;obtain⟨r0,La,JU⟩:=dG (R:=D) (i:=0) (by omega);have H0:=ae La;have Lx:r0.1.e.size<=5000:=(th r0 JU).nm;clear La JU;go_wp2_with fail;refine aI (λV=>ZW V (Q X 0 Z)=T (Y (T (Q g 0 Z)) (ZU D) c1)/\ZW V (Q g 0 Z)=T (U r0.1.e)) 16 (by kernel_rfl) ?_;have l:=ae (H.aa br.drew);clear H;generalize M.drew=ZT at l ⊢;have hD0:0<ZU D:=by omega
      have Z8:Hid (ZW ZT (Q X 0 Z)=T (Y (T (Q g 0 Z)) (ZU D) c1)/\ZW ZT (Q g 0 Z)=T (U r0.1.e)):=⟨l.ab.1,by have h:=(l.G (k:=0) (j:=0) H0 (by omega) rfl).1;simpa using h⟩
      iterate 8
       refine aO 0 (v:=?_) rfl rfl (by kernel_rfl) (λ_ _ _ h=>h) rfl ?_ Z8 ?_;rotate_left
       ·(rintro wz⟨s0,s1⟩;go_simp)
        (try with_reducible rfl)
       (try simp only[Act.put,yh])
      refine aO 10 (v:=?_) rfl rfl (by kernel_rfl) (λ_ _ _ h=>h) rfl ?_ Z8 ?_;rotate_left
      ·(rintro wz⟨s0,s1⟩;go_simp)
       (try with_reducible rfl)
      (try simp only[Act.put,yh])
      refine ai (i:=8) rfl (by kernel_rfl) λK A=>?_;go_simp;go_at_call 41;obtain⟨m1,JT⟩:∃m1:Nat,(61:Int)=(m1:Int):=⟨61,rfl⟩
      rw[JT];refine(eP ⟨#[110]⟩ m1 _ (by show 1*m1<=4000;omega) (by omega)).P ?_;rintro e v6⟨t,rfl,ht,hw⟩;rw[hw];have Ka:t.size<=5000:=nX ht (by show 1*m1<=5000;omega);clear ht hw;refine A _ _ (λ_=>Z8) ?_;clear A K
      (try simp only[Act.put,yh])
      refine pr (i:=9) (j:=11) rfl rfl (by kernel_rfl) (λK A=>?_) λK A=>?_
      focus
       go_simp;have A4:=(BS ZT).alloc ly (N #[U ⟨#[]⟩,U ⟨#[120,32,121]⟩,U r0.1.e,U t] 9);have HL:Hid ((ZV ZT (N #[U ⟨#[]⟩,U ⟨#[120,32,121]⟩,U r0.1.e,U t] 9)).heap[z (B ZT)]?=T (N #[U ⟨#[]⟩,U ⟨#[120,32,121]⟩,U r0.1.e,U t] 9 (0,0))):=gM ZT _;have C:=ae (l.aa A4);have J9:=l.lt;have Kb:=l.hX;have JR:z (B ZT)≠R:=by omega
       clear A4 Z8 J9 Kb;generalize World.alloc ZT _=ZQ at C HL ⊢;generalize (z (B ZT))=Kq at HL JR ⊢;have Z8:Hid (ZW ZQ (Q X 0 Z)=T (Y (T (Q g 0 Z)) (ZU D) c1)/\ZW ZQ (Q g 0 Z)=T (U r0.1.e)):=⟨C.ab.1,by have h:=(C.G (k:=0) (j:=0) H0 (by omega) rfl).1;simpa using h⟩
       refine A _ _ (λ_=>Z8) ?_;clear A K
       (try simp only[Act.put,yh])
       refine ai (i:=11) rfl (by kernel_rfl) λK A=>?_;go_simp;go_at_call 25;refine(ay R _ 4 _ C.rd (by omega) (by omega) (by omega)).P ?_;rintro e v5⟨z4,rfl,JG,Ld,ZS,G⟩;obtain⟨m,rfl⟩:=p9 JG;have hm:m<4:=by omega
       have ZO:=ae (C.ac G ZS);have HL:=ae ((G.p Kq (aj HL) JR).k HL);clear G ZS C Z8;have Z8:Hid (ZW v5 (Q X 0 Z)=T (Y (T (Q g 0 Z)) (ZU D) c1)/\ZW v5 (Q g 0 Z)=T (U r0.1.e)):=⟨ZO.ab.1,by have h:=(ZO.G (k:=0) (j:=0) H0 (by omega) rfl).1;simpa using h⟩
       refine A _ _ (λ_=>Z8) ?_;clear A K
       (try simp only[Act.put,yh])
      rotate_left
      focus
       go_simp;go_at_call 25;refine(ay R _ 4 _ l.rd (by omega) (by omega) (by omega)).P ?_;rintro e ZQ⟨z4,rfl,JG,Ld,ZS,G⟩;obtain⟨m,rfl⟩:=p9 JG;have hm:m<4:=by omega
       have C:=ae (l.ac G ZS);clear G ZS l Z8;have Z8:Hid (ZW ZQ (Q X 0 Z)=T (Y (T (Q g 0 Z)) (ZU D) c1)/\ZW ZQ (Q g 0 Z)=T (U r0.1.e)):=⟨C.ab.1,by have h:=(C.G (k:=0) (j:=0) H0 (by omega) rfl).1;simpa using h⟩
       refine A _ _ (λ_=>Z8) ?_;clear A K
       (try simp only[Act.put,yh])
       refine ai (i:=9) rfl (by kernel_rfl) λK A=>?_;go_simp;have A4:=(BS ZQ).alloc ly (N #[U ⟨#[]⟩,U ⟨#[120,32,121]⟩,U r0.1.e,U t] 9);have HL:Hid ((ZV ZQ (N #[U ⟨#[]⟩,U ⟨#[120,32,121]⟩,U r0.1.e,U t] 9)).heap[z (B ZQ)]?=T (N #[U ⟨#[]⟩,U ⟨#[120,32,121]⟩,U r0.1.e,U t] 9 (0,0))):=gM ZQ _;have ZO:=ae (C.aa A4);have J9:=C.lt;have Kb:=C.hX;have JR:z (B ZQ)≠R:=by omega
       clear A4 Z8 J9 Kb;generalize World.alloc ZQ _=v5 at ZO HL ⊢;generalize (z (B ZQ))=Kq at HL JR ⊢;have Z8:Hid (ZW v5 (Q X 0 Z)=T (Y (T (Q g 0 Z)) (ZU D) c1)/\ZW v5 (Q g 0 Z)=T (U r0.1.e)):=⟨ZO.ab.1,by have h:=(ZO.G (k:=0) (j:=0) H0 (by omega) rfl).1;simpa using h⟩
       refine A _ _ (λ_=>Z8) ?_;clear A K
       (try simp only[Act.put,yh])
      all_goals
       obtain⟨zz,LE,hzz⟩:=Gp HL (by decide) (by decide) Lx Ka m hm
       iterate 4
        refine bV 12 rfl rfl (by kernel_rfl) λK A=>?_;go_simp;refine A _ _ (λ_=>Z8) ?_;clear A K
        (try simp only[Act.put,yh])
       obtain⟨d0,d1⟩:=ZO.G (j:=0) ZM (by omega) rfl;rw[QF] at d0 d1;have gl:=ZO.gb.2.1;have S9:=ae (ZO.ao (j:=0) (u:=U zz) (r':=({ r.1 with e:=zz },r.2)) ZM (by omega) rfl ((ZO.row.sub r HM).same _ rfl rfl rfl rfl) (P.e LE))
     |have e:s=1:=h
      subst e;go_wp2_with fail;refine aI (λV=>ZW V (Q X 0 Z)=T (Y (T (Q g 0 Z)) (ZU D) c1)) 7 (by kernel_rfl) ?_;have l:=ae (H.aa br.drew);clear H;generalize M.drew=ZT at l ⊢;have Z8:=ae l.ab.1
      iterate 4
       refine aO 0 (v:=?_) rfl rfl (by kernel_rfl) (λ_ _ _ h=>h) rfl ?_ Z8 ?_;rotate_left
       ·(intro wz s0;go_simp)
        (try with_reducible rfl)
       (try simp only[Act.put,yh])
      refine ai (i:=4) rfl (by kernel_rfl) λK A=>?_;go_simp;go_at_call 25;refine(ay R _ 5 _ l.rd (by omega) (by omega) (by omega)).P ?_;rintro e ZQ⟨z4,rfl,Ko,Kw,ZS,G⟩;have C:=ae (l.ac G ZS);clear G ZS l Z8;have Z8:=ae C.ab.1;refine A _ _ (λ_=>Z8) ?_;clear A K
      (try simp only[Act.put,yh])
      iterate 2
       refine bV 5 rfl rfl (by kernel_rfl) λK A=>?_;go_simp;refine A _ _ (λ_=>Z8) ?_;clear A K
       (try simp only[Act.put,yh])
      obtain⟨d0,d1⟩:=C.G (j:=1) ZM (by omega) rfl;have gl:=C.gb.2.1;have S9:=ae (C.ao (j:=1) (u:=J I z4) (r':=({ r.1 with m:=z4 },r.2)) ZM (by omega) rfl ((C.row.sub r HM).same _ rfl rfl rfl rfl) (P.m z4))
     |have e:s=2:=h
      subst e;go_wp2_with fail;refine aI (λV=>ZW V (Q X 0 Z)=T (Y (T (Q g 0 Z)) (ZU D) c1)) 8 (by kernel_rfl) ?_;have l:=ae (H.aa br.drew);clear H;generalize M.drew=ZT at l ⊢;have Z8:=ae l.ab.1
      iterate 4
       refine aO 0 (v:=?_) rfl rfl (by kernel_rfl) (λ_ _ _ h=>h) rfl ?_ Z8 ?_;rotate_left
       ·(intro wz s0;go_simp)
        (try with_reducible rfl)
       (try simp only[Act.put,yh])
      refine ai (i:=4) rfl (by kernel_rfl) λK A=>?_;go_simp;go_at_call 25;refine(ay R _ 8 _ l.rd (by omega) (by omega) (by omega)).P ?_;rintro e ZQ⟨z4,rfl,Ko,Kw,ZS,G⟩;have C:=ae (l.ac G ZS);clear G ZS l Z8;have Z8:=ae C.ab.1;refine A _ _ (λ_=>Z8) ?_;clear A K
      (try simp only[Act.put,yh])
      have KZ:IntKind.i64.wrap (z4 - 1)=z4 - 1:=by rw[nL];omega
      iterate 3
       refine bV 5 rfl rfl (by kernel_rfl) λK A=>?_;go_simp;refine A _ _ (λ_=>Z8) ?_;clear A K
       (try simp only[Act.put,yh])
      obtain⟨d0,d1⟩:=C.G (j:=2) ZM (by omega) rfl;have gl:=C.gb.2.1;have S9:=ae (C.ao (j:=2) (u:=J I (z4 - 1)) (r':=({ r.1 with M:=z4 - 1 },r.2)) ZM (by omega) rfl ((C.row.sub r HM).same _ rfl rfl rfl rfl) (P.M _))
     |have e:s=3:=h
      subst e;go_wp2_with fail;refine aI (λV=>ZW V (Q X 0 Z)=T (Y (T (Q g 0 Z)) (ZU D) c1)/\ZW V (Q g (k*6+3) Z)=T (U r.1.H)) 12 (by kernel_rfl) ?_;have l:=ae (H.aa br.drew);clear H;generalize M.drew=ZT at l ⊢;have Z8:Hid (ZW ZT (Q X 0 Z)=T (Y (T (Q g 0 Z)) (ZU D) c1)/\ZW ZT (Q g (k*6+3) Z)=T (U r.1.H)):=⟨l.ab.1,(l.G (j:=3) ZM (by omega) rfl).1⟩
      have hsz:¬ 9223372036854775807<r.1.H.size+1:=by omega
      have Le:(r.1.H++⟨#[120]⟩).size<=2000+ZL:=by have e1:(⟨#[120]⟩:F_).size=1:=rfl;rw[PV,e1];omega
      iterate 9
       refine aO 0 (v:=?_) rfl rfl (by kernel_rfl) (λ_ _ _ h=>h) rfl ?_ Z8 ?_;rotate_left
       ·(rintro wz⟨s0,s1⟩;go_simp)
        (try with_reducible rfl)
       (try simp only[Act.put,yh])
      iterate 3
       refine bV 9 rfl rfl (by kernel_rfl) λK A=>?_;go_simp;refine A _ _ (λ_=>Z8) ?_;clear A K
       (try simp only[Act.put,yh])
      obtain⟨d0,d1⟩:=l.G (j:=3) ZM (by omega) rfl;have gl:=l.gb.2.1;have S9:=ae (l.ao (j:=3) (u:=U (r.1.H++⟨#[120]⟩)) (r':=({ r.1 with H:=r.1.H++⟨#[120]⟩ },r.2)) ZM (by omega) rfl ((l.row.sub r HM).same _ rfl rfl rfl rfl) (P.H Le))
     |have e:s=4:=h
      subst e;go_wp2_with fail;refine aI (λV=>ZW V (Q X 0 Z)=T (Y (T (Q g 0 Z)) (ZU D) c1)) 9 (by kernel_rfl) ?_;have l:=ae (H.aa br.drew);clear H;generalize M.drew=ZT at l ⊢;have Z8:=ae l.ab.1
      iterate 4
       refine aO 0 (v:=?_) rfl rfl (by kernel_rfl) (λ_ _ _ h=>h) rfl ?_ Z8 ?_;rotate_left
       ·(intro wz s0;go_simp)
        (try with_reducible rfl)
       (try simp only[Act.put,yh])
      refine ai (i:=4) rfl (by kernel_rfl) λK A=>?_;go_simp;go_at_call 25;refine(ay R _ 2 _ l.rd (by omega) (by omega) (by omega)).P ?_;rintro e ZQ⟨z4,rfl,Ko,Kw,ZS,G⟩;have C:=ae (l.ac G ZS);clear G ZS l Z8;have Z8:=ae C.ab.1;refine A _ _ (λ_=>Z8) ?_;clear A K
      (try simp only[Act.put,yh])
      have KZ:IntKind.i64.wrap (2000+z4)=2000+z4:=by rw[nL];omega
      refine ai (i:=5) rfl (by kernel_rfl) λK A=>?_;go_simp;refine A _ _ (λ_=>Z8) ?_;clear A K
      (try simp only[Act.put,yh])
      obtain⟨m0,JU⟩:∃m0:Nat,2000+z4=(m0:Int):=⟨(2000+z4).toNat,by omega⟩
      rw[JU];refine ai (i:=6) rfl (by kernel_rfl) λK A=>?_;go_simp;go_at_call 41;refine(eP ⟨#[116]⟩ m0 _ (by show 1*m0<=4000;omega) (by omega)).P ?_;rintro e v6⟨t,rfl,ht,hw⟩;rw[hw];have Ka:t.size<=2000+ZL:=nX ht (by show 1*m0<=2000+ZL;omega);clear ht hw KZ;refine A _ _ (λ_=>Z8) ?_;clear A K
      (try simp only[Act.put,yh])
      iterate 2
       refine bV 7 rfl rfl (by kernel_rfl) λK A=>?_;go_simp;refine A _ _ (λ_=>Z8) ?_;clear A K
       (try simp only[Act.put,yh])
      obtain⟨d0,d1⟩:=C.G (j:=3) ZM (by omega) rfl;have gl:=C.gb.2.1;have S9:=ae (C.ao (j:=3) (u:=U t) (r':=({ r.1 with H:=t },r.2)) ZM (by omega) rfl ((C.row.sub r HM).same _ rfl rfl rfl rfl) (P.H Ka))
     |have e:s=5:=h
      subst e;obtain⟨⟨ga,ca,ea⟩,-⟩:=la.i r HM;have EA:=ae ea;clear ea;go_wp2_with fail;refine aI (λV=>ZW V (Q X 0 Z)=T (Y (T (Q g 0 Z)) (ZU D) c1)/\ZW V (Q g (k*6+4) Z)=T (Y (T (Q ga 0 Z)) r.1.h ca)) 13 (by kernel_rfl) ?_;have l:=ae (H.aa br.drew);clear H;generalize M.drew=ZT at l ⊢;have Z8:Hid (ZW ZT (Q X 0 Z)=T (Y (T (Q g 0 Z)) (ZU D) c1)/\ZW ZT (Q g (k*6+4) Z)=T (Y (T (Q ga 0 Z)) r.1.h ca)):=⟨l.ab.1,(l.G (j:=4) ZM (by omega) (by rw[<-EA.i];rfl)).1⟩
      iterate 10
       refine aO 0 (v:=?_) rfl rfl (by kernel_rfl) (λ_ _ _ h=>h) rfl ?_ Z8 ?_;rotate_left
       ·(rintro wz⟨s0,s1⟩;go_simp)
        (try with_reducible rfl)
       (try simp only[Act.put,yh])
      refine ai (i:=10) rfl (by kernel_rfl) λK A=>?_;go_simp;go_at_call 66;refine(Dq (l.row.sub r HM) EA l.rd (by omega) JK (by omega)).P ?_;rintro e ZQ⟨L4,g4,c4,rfl,Ki,-,LD,KI,q4,hq4,ZS,G⟩;have C:=ae (l.ac G ZS);have Lb:=l.lt;have I4:Hid (ZY ZQ (z (B w)+2) 124 3 (Y (T (Q g4 0 Z)) (ZU L4) c4) (ZU L4) (bZ (cY L4) (ZU L4))):=by show ZY World _ _ _ _ _ _ _;rw[<-qK];exact aE Ki (by omega)
      have T4:=ae KI;clear G ZS l Z8 Ki KI Lb;have Z8:Hid (ZW ZQ (Q X 0 Z)=T (Y (T (Q g 0 Z)) (ZU D) c1)/\ZW ZQ (Q g (k*6+4) Z)=T (Y (T (Q ga 0 Z)) r.1.h ca)):=⟨C.ab.1,(C.G (j:=4) ZM (by omega) (by rw[<-EA.i];rfl)).1⟩
      refine A _ _ (λ_=>Z8) ?_;clear A K
      (try simp only[Act.put,yh])
      iterate 2
       refine bV 11 rfl rfl (by kernel_rfl) λK A=>?_;go_simp;refine A _ _ (λ_=>Z8) ?_;clear A K
       (try simp only[Act.put,yh])
      have d0:=Z8.2;have d1:=(C.G (j:=4) ZM (by omega) rfl).2;have gl:=C.gb.2.1;have S9:=ae (C.ao (j:=4) (u:=Y (T (Q g4 0 Z)) (ZU L4) c4) (r':=({ r.1 with h:=ZU L4,u:=cY L4 },Y (T (Q g4 0 Z)) (ZU L4) c4,r.2.2)) ZM (by omega) rfl ⟨I4,(C.row.sub r HM).az⟩ ⟨P.nm,P.tx,by show (ZU L4)<=200+ZL;omega,iI T4,P.ln,P.lsz⟩)
    all_goals
     refine bV 0 rfl rfl (by kernel_rfl) λK A=>?_;go_simp;refine A _ _ (λh=>absurd rfl h) ?_;clear A K Z8
     (try simp only[Act.put,yh])
     refine ba (by kernel_rfl) ?_ _;clear d0 d1 gl;go_wp2;go_meet;exact⟨_,_,_,_,by omega,S9⟩
 case rest =>
 clear H;obtain⟨a',c',q',D',Lv,S9⟩:=hcut;have bx:=S9.ab.1;have rs:=S9.rs;have r0:ZW wc (Q (z (B w)+1) 0 Z)=T (Y Z 0 0):=by simp[World.cell?,rs]
 have f0:ZX wc (Q (z (B w)+1) 0 Z)=ZA:=by simp[World.frozen?,rs]
 have l0:=aj rs;have FN:=ae (S9.fin (by omega) Lv);clear rs;go_wp2;exact bp (v:=ZJ #[Y a' (ZU D') c']) (by simp[results,results26,go_sem,r0]) rfl FN.i
