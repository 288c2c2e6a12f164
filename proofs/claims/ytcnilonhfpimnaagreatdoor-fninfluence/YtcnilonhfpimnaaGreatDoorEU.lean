import Derived.Test.YtcnilonhfpimnaaGreatDoorES
import Derived.Test.YtcnilonhfpimnaaGreatDoorEB
set_option linter.all false
set_option maxRecDepth 100000
set_option maxHeartbeats 40000000
open Go renaming Addr.mk->T,Value.slice->Y,Value.string->U,Value.int->J,Value.bool->ZF,Value.agg->ZJ,Obj.cells->N,IntKind.i64->I,World->E,TypeId->ZK,World.heap->B,World.ownsRow->ZY,World.alloc->ZV,World.cell?->ZW,World.frozen?->ZX,Act.put->p_
open Option renaming none->Z,some->Q
open Bool renaming false->ZA,true->ZH
open Array renaming size->z
open List renaming length->ZU
namespace Go.Proofs.YtcnilonhfpimnaaGreatDoor.Vp
open Tryz RowKit Ca
variable {w W:E}{n b m R:Nat}{t:ZK}
def Ip:∃i:TypeInfo,Tryz.prog.info? 65=Q i/\i.zero=Q (ZJ #[U ⟨#[]⟩,ZF ZA,ZF ZA,J I 0])/\i.size=4/\i.bytes=32:=NO lH
def mL{base size:Nat}{e:ZK}{cs:Array Value}(hb:base<=z (B w))(f:n<=maxLen)(b:cs.size=n*size):(w.alloc (N cs e)).ownsRow base e size (Y (Q (T (z (B w)) 0 Z)) n n) n cs.toList:=
 ⟨by simpa using b,.inr ⟨z (B w),n,cs,rfl,hb,gM w _,p7 _,f,b,by rw[NU];simp[b]⟩⟩
def Dp (f:Nat->Link)(h:m<=n):(cy f n).take (m*4)=cy f m:=by
 refine UG λj=>?_;rw[TV];have hn:=iT f n;have hm:=iT f m;by_cases b:j<m*4
 ·have e:j=j / 4*4+j % 4:=by omega
  rw[eT b,e,jJ f (by omega) _ (UJ _ (by omega)),jJ f (by omega) _ (UJ _ (by omega))]
 {rw[eI b,NT (by omega)]}
def Gm{g c:Nat}{f:Nat->Link}(h:ZY w b 65 4 (Y (Q (T g 0 Z)) n c) n (cy f n))(q:m<=n):ZY w b 65 4 (Y (Q (T g 0 Z)) m c) m (cy f m):=by
 refine⟨iT f m,?_⟩;rcases h.2 with⟨i,_⟩|⟨g',j_,j,i,hb,p,hc,o,r,l⟩
 {cases i}
 ·cases i
  refine .inr ⟨g,c,j,rfl,hb,p,by omega,o,r,?_⟩;rw[<-Dp f q,<-l,List.take_take,QL (by omega)]
def ww (f:Nat->Link)(n:Nat)(y:Link):cy f n++du y=cy (λi=>if i=n then y else f i) (n+1):=by
 unfold cy;rw[PH,ND,J1];congr 1;{congr 1;refine XS λi hi=>?_;have:=E4.1 hi;rw[eI (by omega)]};{simp}
def Gn{g l f i:Int}{fz:Nat × Nat}(h:w.heap[b]?=Q (N #[J I g,J I l,J I f,J I i] t fz))(k:Nat)(m:k<4):∃ZZ,ZW w (T b k Z)=Q (J I ZZ):=by
 match k,m with
 |0,_=>exact⟨g,by simp[World.cell?,h]⟩
 |1,_=>exact⟨l,by simp[World.cell?,h]⟩
 |2,_=>exact⟨f,by simp[World.cell?,h]⟩
 |3,_=>exact⟨i,by simp[World.cell?,h]⟩
 |j+4,h5=>exact absurd h5 (by omega)
def oh (W:E)(b:Nat):Nat:=match ZW W (T b 5 Z) with
 |some (Y _ n _)=>n
 |_=>0
def LBx.len{c:Nat}{l f i g j:Value}{a:O_}(h:LBx W b l f i g j (Y a n c)):oh W b=n:=by unfold oh;rw[h.cells.2.2.2.2.2]
def qV (ZQ:Nat)(hNN:200<=ZQ/\ZQ<=299)(ZL:E)(R p x g c n:Nat)(f:Nat->Link)(nm tx:F_)(ZR L:Int)(H:O_)(ZS c4:Nat)(w:E)(hO:zt R ZL w)(hR:R<z (B ZL))(hb:z (B ZL)<=x)(hbw:x<=z (B w))(hr:Rd w R p)(hp:p<=50000)(Fd:ZY w x 65 4 (Y (Q (T g 0 Z)) n c) n (cy f n))(hn:n<=ZQ)(Fm:∀j,j<n->(f j).e.size<=5000):Calls Tryz.prog 52 #[.pointer (Q (T R 0 Z)),ZJ #[U nm,J I ZR,J I L,U tx,Y H ZS c4,Y (Q (T g 0 Z)) n c]] w λe w'=>DL ZQ ZL w R x g (U nm) (J I ZR) (J I L) (U tx) (Y H ZS c4) (p+10) e w':=by
 have ZM:=ae (Im (v0:=U nm) (v1:=J I ZR) (v2:=J I L) (v3:=U tx) (v4:=Y H ZS c4) hO hR hb hbw hr Fd Fm);obtain⟨GS,hi,DQ,Bk,Id⟩:=Ip;clear hO hR hb hbw hr Fd Fm;obtain⟨-,-,-,-,-,W⟩:=ZM.bx.cells;have P:=ZM.bx.lt;by_cases hz:n=0
 ·subst hz;go_enter func52,ntmps52;go_wp2_with fail;generalize World.alloc (World.alloc w _) _=W0 at ZM W P ⊢;clear W P;refine(dH R _ _ ZM.rd (by omega)).P ?_;rintro e w1⟨ln,rfl,JK,ld,bt⟩;have L1:=ae (ZM.ac bt ld);clear bt ld ZM;go_wp2_with fail;refine(ay R _ 2 _ L1.rd (by omega) (by omega) (by omega)).P ?_;rintro e S⟨ZZ,rfl,ro,sm,fd,aq⟩;have A:=ae (L1.ac aq fd);clear aq fd L1;obtain⟨bh,JJ⟩:∃b:Bool,(ZZ=0/\b=ZH)\/(ZZ=1/\b=ZA):=by rcases(show ZZ=0\/ZZ=1 by omega) with h|h<;>simp[h]
  have A3:=(BS S).alloc ly (N #[U ln,ZF ZA,ZF bh,J I 0] 65);have h2:=A.lt;have h3:=A.hbw;have O3:(ZV S (N #[U ln,ZF ZA,ZF bh,J I 0] 65)).ownsRow x 65 4 (Y (Q (T (z (B S)) 0 Z)) 1 1) 1 (cy (λ_=>⟨ln,ZA,bh,0⟩) 1):=mL (cs:=#[U ln,ZF ZA,ZF bh,J I 0]) (by omega) (by unfold maxLen;omega) rfl;have o:=ae ((A.aa A3).setB (qS _ _) O3 (.inr (by omega)) (λj _=>by show ln.size<=5000;omega));obtain⟨-,-,-,-,-,W⟩:=A.bx.cells;have bz:=A.bx.fz 5;have P:=A.bx.lt;rw[World.setCell_alloc_past _ _ _ _ P] at o;clear A3 O3;rcases JJ with⟨rfl,rfl⟩|⟨rfl,rfl⟩
  all_goals
   go_upto_region 3 with fail;generalize World.alloc (World.setCell S _ _) _=W3 at o ⊢;clear W bz P;obtain⟨b0,b1,b2,b3,b4,W⟩:=o.bx.cells;obtain⟨r0,r1,r2,r3,r4,r5⟩:=o.rs.cells;obtain⟨z0,z1,z2,z3,z4,z5⟩:=al6 o.rs.fz;have P:=o.bx.lt;have lr:=o.rs.lt;have FN:=ae (o.fin (ZQ:=ZQ) (ZO:=p+10) (by omega) (by omega) (U nm) (J I ZR) (J I L) (U tx) (Y H ZS c4) (Y (Q (T (z (B S)) 0 Z)) 1 1));have FB:=ae (o.rs.six (U nm) (J I ZR) (J I L) (U tx) (Y H ZS c4) (Y (Q (T (z (B S)) 0 Z)) 1 1));go_wp2;generalize World.setCell (World.setCell (World.setCell (World.setCell (World.setCell (World.setCell W3 _ _) _ _) _ _) _ _) _ _) _ _=V at FN FB ⊢;obtain⟨x0,x1,x2,x3,x4,x5⟩:=FB.cells;exact bp (v:=ZJ #[U nm,J I ZR,J I L,U tx,Y H ZS c4,Y (Q (T (z (B S)) 0 Z)) 1 1]) (by simp[results,results52,go_sem,x0,x1,x2,x3,x4,x5]) rfl FN.i
 have nz:¬ ((n:Int)=0):=by omega
 go_enter func52,ntmps52;go_wp2_with fail;generalize World.alloc (World.alloc w _) _=W0 at ZM W P ⊢;refine(ay R _ (n:Int) _ ZM.rd (by omega) (by omega) (by omega)).P ?_;rintro e w1⟨ZZ,rfl,ro,sm,ld,bt⟩;obtain⟨k,rfl⟩:=p9 ro;have ZT:k<n:=by omega
 have L1:=ae (ZM.ac bt ld);clear bt ld ZM W P ro sm;go_wp2_with fail;refine(ay R _ 7 _ L1.rd (by omega) (by omega) (by omega)).P ?_;rintro e S⟨s,rfl,hs0,hs1,fd,aq⟩;have A:=ae (L1.ac aq fd);clear aq fd L1;have hn1:=A.nm k ZT;have SB:Hid (∀V:E,LBx V (z (B w)) (U nm) (J I ZR) (J I L) (U tx) (Y H ZS c4) (Y (Q (T g 0 Z)) n c)->ZW V (T (z (B w)) 5 Z)=Q (Y (Q (T g 0 Z)) n c)):=λV h=>h.cells.2.2.2.2.2;go_upto_block 0 with fail;go_cut [] (λwx=>∃(q' X G c':Nat) (f':Nat->Link),q'<=p+10/\G<=ZQ+1/\Hid (LStD ZL w R x g (U nm) (J I ZR) (J I L) (U tx) (Y H ZS c4) wx q' X G c' f'));case rest =>clear A SB hn1;obtain⟨q',X,G,c',f',hq',JI,l⟩:=hcut;go_upto_region 21 with fail;obtain⟨b0,b1,b2,b3,b4,W⟩:=l.bx.cells;obtain⟨r0,r1,r2,r3,r4,r5⟩:=l.rs.cells;obtain⟨z0,z1,z2,z3,z4,z5⟩:=al6 l.rs.fz;have P:=l.bx.lt;have lr:=l.rs.lt;have FN:=ae (l.fin (ZQ:=ZQ) (ZO:=p+10) (by omega) (by omega) (U nm) (J I ZR) (J I L) (U tx) (Y H ZS c4) (Y (Q (T X 0 Z)) G c'));have FB:=ae (l.rs.six (U nm) (J I ZR) (J I L) (U tx) (Y H ZS c4) (Y (Q (T X 0 Z)) G c'));go_wp2;generalize World.setCell (World.setCell (World.setCell (World.setCell (World.setCell (World.setCell wc _ _) _ _) _ _) _ _) _ _) _ _=V at FN FB ⊢;obtain⟨x0,x1,x2,x3,x4,x5⟩:=FB.cells;exact bp (v:=ZJ #[U nm,J I ZR,J I L,U tx,Y H ZS c4,Y (Q (T X 0 Z)) G c']) (by simp[results,results52,go_sem,x0,x1,x2,x3,x4,x5]) rfl FN.i
 rcases(show(s=0\/s=1\/s=2\/s=3)\/s=4\/s=5\/s=6 by omega) with (rfl|rfl|rfl|rfl)|rfl|rfl|rfl;rotate_left 4
 ·obtain⟨m,rfl⟩:∃m,n=m+1:=⟨n - 1,by omega⟩
  have hcap:=jY A.u;obtain⟨-,-,-,-,-,W⟩:=A.bx.cells;have bz:=A.bx.fz 5;have P:=A.bx.lt;have o:=ae (A.setB (qS _ _) (Gm A.u (BV m)) (.inl rfl) (λj hj=>A.nm j (by omega)));have hw:IntKind.i64.wrap (((m+1:Nat):Int) - 1)=(m:Int):=by rw[nL];omega
  go_wp2;go_meet;exact⟨_,_,_,_,_,by omega,by omega,o⟩
 ·go_wp2_with fail;refine aI (λV=>ZW V (T (z (B w)) 5 Z)=Q (Y (Q (T g 0 Z)) n c)) 10 (by kernel_rfl) ?_;have o:=ae (A.aa br.drew);clear A;generalize S.drew=t at o ⊢;have r:=ae (SB t o.bx);iterate 6
   refine aO 0 (v:=?_) rfl rfl (by kernel_rfl) (λ_ _ _ h=>h) rfl ?_ r ?_;rotate_left
   ·(intro wz s0;go_simp)
    (try with_reducible rfl)
   (try simp only[p_,z_])
  have e0:=(cZ (j:=0) o.u ZT (by omega) rfl).1;have e1:=(cZ (j:=1) o.u ZT (by omega) rfl).1;have e2:=(cZ (j:=2) o.u ZT (by omega) rfl).1;have e3:=(cZ (j:=3) o.u ZT (by omega) rfl).1;rw[QE] at e0;refine ai (i:=6) rfl (by kernel_rfl) λK q=>?_;go_simp;refine q _ _ (λ_=>r) ?_;clear q K
  (try simp only[p_,z_])
  clear e0 e1 e2 e3;refine ai (i:=7) rfl (by kernel_rfl) λK q=>?_;go_simp;have A4:=(BS t).alloc ly (N #[U (f k).e,ZF (f k).ask,ZF (f k).has,J I (f k).G] 65);have l:=ae (o.aa A4);have HN:Hid (∀j u,(du (f k))[j]?=Q u->(ZV t (N #[U (f k).e,ZF (f k).ask,ZF (f k).has,J I (f k).G] 65)).cell? (((T (z (B t)) 0 Z):Addr).add j)=Q u):=(mL (base:=0) (e:=65) (size:=4) (n:=1) (cs:=#[U (f k).e,ZF (f k).ask,ZF (f k).has,J I (f k).G]) (DW _) (by unfold maxLen;omega) rfl).cells rfl;have hl3:=o.lt;have hl3':=o.hbw;have hz3:z (B (ZV t (N #[U (f k).e,ZF (f k).ask,ZF (f k).has,J I (f k).G] 65)))=z (B t)+1:=by simp
  clear A4 r;have r:=ae (SB _ l.bx);refine q _ _ (λ_=>r) ?_;clear q K
  (try simp only[p_,z_])
  refine ai (i:=8) rfl (by kernel_rfl) (λK q=>?_);refine step_append_lies _ rfl (.tmp 110) (.tmp 116) 60 rfl x 65 GS (ZJ #[U ⟨#[]⟩,ZF ZA,ZF ZA,J I 0]) 4 32 SV hi DQ Bk Id rfl (by decide) (Y (Q (T g 0 Z)) n c) n (cy f n) (by simp[Act.eval]) l.u (T (z (B t)) 0 Z) 1 1 (du (f k)) (by simp[Act.eval]) rfl HN.i (by simp[du,Value.oneCell']) (by omega) (by unfold maxLen;omega) (by omega) (by omega) _ rfl ?_;intro g5 c5 ZP M C ex Fk;rw[ww f n (f k)] at M;have G5:=ae C;have O5:=ae M;have ph:g5=g\/(z (B w))<=g5:=by
   rcases ex with h|h;{exact .inl (by simpa[Value.ownBlock] using h.c)};{exact .inr (by omega)}
  have BX:Hid (LBx ZP (z (B w)) (U nm) (J I ZR) (J I L) (U tx) (Y H ZS c4) (Y (Q (T g 0 Z)) n c)):=l.bx.ad (C.p _ l.bx.lt (λe=>l.gne.1 (by simpa[Value.ownBlock] using e.c)));clear M C ex Fk HN r;have r:=ae (SB ZP BX);refine q _ _ (λ_=>r) ?_;clear q K
  (try simp only[p_,z_])
  refine ai (i:=9) rfl (by kernel_rfl) λK q=>?_;go_simp;refine q _ _ (λ_=>r) ?_;clear q K
  (try simp only[p_,z_])
  have L6:=ae (l.setB G5 O5 ph (λj hj=>by show(if j=n then f k else f j).e.size<=5000;split;exact hn1;exact l.nm j (by omega)));obtain⟨-,-,-,-,-,W⟩:=BX.cells;have bz:=BX.fz 5;have P:=BX.lt;refine ai (i:=10) rfl (by kernel_rfl) λK q=>?_;go_simp;refine q _ _ (λh=>absurd rfl h) ?_;clear q K r
  (try simp only[p_,z_])
  refine ba (by kernel_rfl) ?_ _;clear W bz P BX G5 O5 l;go_wp2;go_meet;exact⟨_,_,_,_,_,by omega,by omega,L6⟩
 ·go_wp2_with fail;refine(ay R _ 2 _ A.rd (by omega) (by omega) (by omega)).P ?_;rintro e w3⟨ZZ,rfl,ro,sm,DE,At⟩;have o:=ae (A.ac At DE);clear At DE A hn1 SB ZT;have hw:IntKind.i64.wrap (200+ZZ)=200+ZZ:=by rw[nL];omega
  go_wp2_with fail;go_loopw [] (λwr=>∃(X G c':Nat) (f':Nat->Link),G<=ZQ+1/\Hid (LStD ZL w R x g (U nm) (J I ZR) (J I L) (U tx) (Y H ZS c4) wr (p+1+1+1) X G c' f')) (λwr=>300 - oh wr (z (B w)));case atStart=>exact⟨g,n,c,f,by omega,o⟩
  case round =>
   obtain⟨X,G,c',f',JI,l⟩:=hrel;obtain⟨-,-,-,-,-,W⟩:=l.bx.cells;have P:=l.bx.lt;have n9:=l.lt;have n8:=l.hbw;clear o;by_cases Fk:(G:Int)<200+ZZ
   ·have Z8:=ae (l.aa ((BS wr).alloc ly (N #[U ⟨#[97]⟩,ZF ZA,ZF ZH,J I 0] 65)));have HN:Hid (∀j u,(du ⟨⟨#[97]⟩,ZA,ZH,0⟩)[j]?=Q u->(ZV wr (N #[U ⟨#[97]⟩,ZF ZA,ZF ZH,J I 0] 65)).cell? (((T (z (B wr)) 0 Z):Addr).add j)=Q u):=(mL (base:=0) (e:=65) (size:=4) (n:=1) (cs:=#[U ⟨#[97]⟩,ZF ZA,ZF ZH,J I 0]) (DW _) (by unfold maxLen;omega) rfl).cells rfl;have hz5:z (B (ZV wr (N #[U ⟨#[97]⟩,ZF ZA,ZF ZH,J I 0] 65)))=z (B wr)+1:=by simp
    go_wp2_with (at_builtin;refine wpList_append_lies _ rfl (.tmp 36) (.tmp 38) 60 rfl x 65 GS (ZJ #[U ⟨#[]⟩,ZF ZA,ZF ZA,J I 0]) 4 32 SV hi DQ Bk Id rfl (by decide) (Y (Q (T X 0 Z)) G c') G (cy f' G) (by simp[Act.eval]) Z8.u (T (z (B wr)) 0 Z) 1 1 (du ⟨⟨#[97]⟩,ZA,ZH,0⟩) (by simp[Act.eval]) rfl HN.i (by simp[du,Value.oneCell']) (by omega) (by unfold maxLen;omega) (by omega) (by omega) _ rfl ?_;intro g5 c5 ZP M C ex JH;have BX:Hid (LBx ZP (z (B w)) (U nm) (J I ZR) (J I L) (U tx) (Y H ZS c4) (Y (Q (T X 0 Z)) G c')):=Z8.bx.ad (C.p _ Z8.bx.lt (λe=>Z8.gne.1 (by simpa[Value.ownBlock] using e.c)));rw[ww f' G] at M;have ph:g5=X\/(z (B w))<=g5:=(by rcases ex with h|h;exact .inl (by simpa[Value.ownBlock] using h.c);exact .inr (by omega));have L6:=ae (Z8.setB C M ph (λj hj=>(by show(if j=G then (⟨⟨#[97]⟩,ZA,ZH,0⟩:Link) else f' j).e.size<=5000;split;exact(by decide);exact Z8.nm j (by omega))));obtain⟨-,-,-,-,-,q5⟩:=BX.cells;have qz:=BX.fz 5;have ql:=BX.lt;clear M C ex JH ph);refine⟨⟨g5,G+1,c5,_,by omega,L6⟩,?_⟩;have e1:=l.bx.len;have e2:=L6.bx.len;show 300 - oh _ _<300 - oh _ _;rw[e1,e2];omega
   {skip;go_wp2;go_meet;exact⟨_,_,_,_,_,by omega,by omega,l⟩}
 focus
  go_wp2_with fail;refine aI (λV=>ZW V (T (z (B w)) 5 Z)=Q (Y (Q (T g 0 Z)) n c)) 7 (by kernel_rfl) ?_;have o:=ae (A.aa br.drew);clear A;generalize S.drew=t at o ⊢;have r:=ae (SB t o.bx)
  iterate 4
   refine aO 0 (v:=?_) rfl rfl (by kernel_rfl) (λ_ _ _ h=>h) rfl ?_ r ?_;rotate_left
   ·(intro wz s0;go_simp)
    (try with_reducible rfl)
   (try simp only[p_,z_])
  refine ai (i:=4) rfl (by kernel_rfl) λK q=>?_;go_simp;go_at_call 32;refine(dH R _ _ o.rd (by omega)).P ?_;rintro e D⟨ln,rfl,JK,ZN,O⟩;have l:=ae (o.ac O ZN);clear O ZN o r;have r:=ae (SB D l.bx);refine q _ _ (λ_=>r) ?_;clear q K
  (try simp only[p_,z_])
  iterate 2
   refine bV 5 rfl rfl (by kernel_rfl) λK q=>?_;go_simp;refine q _ _ (λ_=>r) ?_;clear q K
   (try simp only[p_,z_])
  obtain⟨d0,d1⟩:=cZ (j:=0) l.u ZT (by omega) rfl;rw[QE] at d0 d1;have gl:=l.gne.2.2.2;have Z8:Hid (LStD ZL w R x g (U nm) (J I ZR) (J I L) (U tx) (Y H ZS c4) (D.setCell (T g (k*4) Z) (U ln)) _ g n c _):=l.setL (j:=0) (y:={ f k with e:=ln }) (u:=U ln) ZT (by omega) rfl (by show ln.size<=5000;omega)
 rotate_left;have M1:=True.intro;iterate 2
  focus
   go_wp2_with fail;first|(guard_hyp M1;refine aI (λV=>ZW V (T (z (B w)) 5 Z)=Q (Y (Q (T g 0 Z)) n c)/\ZW V (T g (k*4+1) Z)=Q (ZF (f k).ask)) 12 (by kernel_rfl) ?_)|refine aI (λV=>ZW V (T (z (B w)) 5 Z)=Q (Y (Q (T g 0 Z)) n c)/\ZW V (T g (k*4+2) Z)=Q (ZF (f k).has)) 12 (by kernel_rfl) ?_
   have l:=ae (A.aa br.drew);clear A;generalize S.drew=t at l ⊢;first|(guard_hyp M1;obtain⟨d0,d1⟩:=cZ (j:=1) l.u ZT (by omega) rfl)|obtain⟨d0,d1⟩:=cZ (j:=2) l.u ZT (by omega) rfl
   first|(guard_hyp M1;have r:Hid (ZW t (T (z (B w)) 5 Z)=Q (Y (Q (T g 0 Z)) n c)/\ZW t (T g (k*4+1) Z)=Q (ZF (f k).ask)):=⟨SB t l.bx,d0⟩)|have r:Hid (ZW t (T (z (B w)) 5 Z)=Q (Y (Q (T g 0 Z)) n c)/\ZW t (T g (k*4+2) Z)=Q (ZF (f k).has)):=⟨SB t l.bx,d0⟩
   clear d0
   iterate 10
    refine aO 0 (v:=?_) rfl rfl (by kernel_rfl) (λ_ _ _ h=>h) rfl ?_ r ?_;rotate_left
    ·(rintro wz⟨s0,s1⟩;go_simp)
     (try with_reducible rfl)
    (try simp only[p_,z_])
   iterate 2
    refine bV 10 rfl rfl (by kernel_rfl) λK q=>?_;go_simp;refine q _ _ (λ_=>r) ?_;clear q K
    (try simp only[p_,z_])
   have d0:=r.2;have gl:=l.gne.2.2.2;first|(guard_hyp M1;have Z8:Hid (LStD ZL w R x g (U nm) (J I ZR) (J I L) (U tx) (Y H ZS c4) (t.setCell (T g (k*4+1) Z) (ZF (!(f k).ask))) _ g n c _):=l.setL (j:=1) (y:={ f k with ask:=!(f k).ask }) (u:=ZF (!(f k).ask)) ZT (by omega) rfl hn1)|have Z8:Hid (LStD ZL w R x g (U nm) (J I ZR) (J I L) (U tx) (Y H ZS c4) (t.setCell (T g (k*4+2) Z) (ZF (!(f k).has))) _ g n c _):=l.setL (j:=2) (y:={ f k with has:=!(f k).has }) (u:=ZF (!(f k).has)) ZT (by omega) rfl hn1
  rotate_left
 focus
  go_wp2_with fail;refine aI (λV=>ZW V (T (z (B w)) 5 Z)=Q (Y (Q (T g 0 Z)) n c)/\ZW V (T g (k*4+3) Z)=Q (J I (f k).G)) 17 (by kernel_rfl) ?_;have o:=ae (A.aa br.drew);clear A;generalize S.drew=t at o ⊢;have r:Hid (ZW t (T (z (B w)) 5 Z)=Q (Y (Q (T g 0 Z)) n c)/\ZW t (T g (k*4+3) Z)=Q (J I (f k).G)):=⟨SB t o.bx,(cZ (j:=3) o.u ZT (by omega) rfl).1⟩
  iterate 10
   refine aO 0 (v:=?_) rfl rfl (by kernel_rfl) (λ_ _ _ h=>h) rfl ?_ r ?_;rotate_left
   ·(rintro wz⟨s0,s1⟩;go_simp)
    (try with_reducible rfl)
   (try simp only[p_,z_])
  refine aO 11 (v:=?_) rfl rfl (by kernel_rfl) (λ_ _ _ h=>h) rfl ?_ r ?_;rotate_left
  ·(rintro wz⟨s0,s1⟩;go_simp)
   (try with_reducible rfl)
  (try simp only[p_,z_])
  generalize IntKind.i64.wrap ((f k).G+1)=ax;refine pu (i:=10) (j:=12) rfl rfl (by kernel_rfl) (λK q=>?_) λK q=>?_
  focus
   go_simp;have A4:=(BS t).alloc ly (N #[J I (-1),J I 0,J I ax,J I 400] 3);have HL:Hid ((ZV t (N #[J I (-1),J I 0,J I ax,J I 400] 3)).heap[z (B t)]?=Q (N #[J I (-1),J I 0,J I ax,J I 400] 3 (0,0))):=gM t _;have l:=ae (o.aa A4);have n9:=o.lt;have n8:=o.hbw;have th:=o.hR;have ur:=o.hb;have qr:z (B t)≠R:=by omega
   clear A4 r n9 n8 th ur;generalize World.alloc t _=D at l HL ⊢;generalize (z (B t))=Hx at HL qr ⊢;have r:Hid (ZW D (T (z (B w)) 5 Z)=Q (Y (Q (T g 0 Z)) n c)/\ZW D (T g (k*4+3) Z)=Q (J I (f k).G)):=⟨SB D l.bx,(cZ (j:=3) l.u ZT (by omega) rfl).1⟩
   refine q _ _ (λ_=>r) ?_;clear q K
   (try simp only[p_,z_])
   refine ai (i:=12) rfl (by kernel_rfl) λK q=>?_;go_simp;go_at_call 19;refine(ay R _ 4 _ l.rd (by omega) (by omega) (by omega)).P ?_;rintro e ZP⟨z4,rfl,mv,JG,ZN,O⟩;obtain⟨m,rfl⟩:=p9 mv;have hm:m<4:=by omega
   have Z8:=ae (l.ac O ZN);have HL:=ae ((O.p Hx (aj HL) qr).k HL);clear O ZN l r;have r:Hid (ZW ZP (T (z (B w)) 5 Z)=Q (Y (Q (T g 0 Z)) n c)/\ZW ZP (T g (k*4+3) Z)=Q (J I (f k).G)):=⟨SB ZP Z8.bx,(cZ (j:=3) Z8.u ZT (by omega) rfl).1⟩
   refine q _ _ (λ_=>r) ?_;clear q K
   (try simp only[p_,z_])
  rotate_left
  focus
   go_simp;go_at_call 19;refine(ay R _ 4 _ o.rd (by omega) (by omega) (by omega)).P ?_;rintro e D⟨z4,rfl,mv,JG,ZN,O⟩;obtain⟨m,rfl⟩:=p9 mv;have hm:m<4:=by omega
   have l:=ae (o.ac O ZN);clear O ZN o r;have r:Hid (ZW D (T (z (B w)) 5 Z)=Q (Y (Q (T g 0 Z)) n c)/\ZW D (T g (k*4+3) Z)=Q (J I (f k).G)):=⟨SB D l.bx,(cZ (j:=3) l.u ZT (by omega) rfl).1⟩
   refine q _ _ (λ_=>r) ?_;clear q K
   (try simp only[p_,z_])
   refine ai (i:=10) rfl (by kernel_rfl) λK q=>?_;go_simp;have A4:=(BS D).alloc ly (N #[J I (-1),J I 0,J I ax,J I 400] 3);have HL:Hid ((ZV D (N #[J I (-1),J I 0,J I ax,J I 400] 3)).heap[z (B D)]?=Q (N #[J I (-1),J I 0,J I ax,J I 400] 3 (0,0))):=gM D _;have Z8:=ae (l.aa A4);have n9:=l.lt;have n8:=l.hbw;have th:=l.hR;have ur:=l.hb;have qr:z (B D)≠R:=by omega
   clear A4 r n9 n8 th ur;generalize World.alloc D _=ZP at Z8 HL ⊢;generalize (z (B D))=Hx at HL qr ⊢;have r:Hid (ZW ZP (T (z (B w)) 5 Z)=Q (Y (Q (T g 0 Z)) n c)/\ZW ZP (T g (k*4+3) Z)=Q (J I (f k).G)):=⟨SB ZP Z8.bx,(cZ (j:=3) Z8.u ZT (by omega) rfl).1⟩
   refine q _ _ (λ_=>r) ?_;clear q K
   (try simp only[p_,z_])
  all_goals
   have l:=Z8;clear Z8;obtain⟨zz,hzz⟩:=Gn HL m hm
   iterate 4
    refine bV 13 rfl rfl (by kernel_rfl) λK q=>?_;go_simp;refine q _ _ (λ_=>r) ?_;clear q K
    (try simp only[p_,z_])
   have d0:=r.2;have d1:=(cZ (j:=3) l.u ZT (by omega) rfl).2;have gl:=l.gne.2.2.2;have Z8:Hid (LStD ZL w R x g (U nm) (J I ZR) (J I L) (U tx) (Y H ZS c4) (ZP.setCell (T g (k*4+3) Z) (J I zz)) _ g n c _):=l.setL (j:=3) (y:={ f k with G:=zz }) (u:=J I zz) ZT (by omega) rfl hn1
 all_goals
  refine bV 0 rfl rfl (by kernel_rfl) λK q=>?_;go_simp;refine q _ _ (λh=>absurd rfl h) ?_;clear q K r
  (try simp only[p_,z_])
  refine ba (by kernel_rfl) ?_ _;clear d0 d1 gl l;go_wp2;go_meet;exact⟨_,_,_,_,_,by omega,by omega,Z8⟩
abbrev DC (V:E)(g q:Nat)(d:au)(ga ca gl cl:Nat):Prop:=ZW V (T g q Z)=Q (U d.e)/\ZW V (T g (q+1) Z)=Q (J I d.L)/\ZW V (T g (q+2) Z)=Q (J I d.M)/\ZW V (T g (q+3) Z)=Q (U d.H)/\ZW V (T g (q+4) Z)=Q (Y (Q (T ga 0 Z)) d.h ca)/\ZW V (T g (q+5) Z)=Q (Y (Q (T gl 0 Z)) d.f cl)
def Gp{s0 s1 f g:F_}{fz:Nat × Nat}(h:w.heap[b]?=Q (N #[U s0,U s1,U f,U g] t fz))(l:s0.size<=5000)(h1:s1.size<=5000)(h2:f.size<=5000)(i:g.size<=5000)(k:Nat)(m:k<4):∃s:F_,s.size<=5000/\ZW w (T b k Z)=Q (U s):=by
 match k,m with
 |0,_=>exact⟨s0,l,by simp[World.cell?,h]⟩
 |1,_=>exact⟨s1,h1,by simp[World.cell?,h]⟩
 |2,_=>exact⟨f,h2,by simp[World.cell?,h]⟩
 |3,_=>exact⟨g,i,by simp[World.cell?,h]⟩
 |j+4,h5=>exact absurd h5 (by omega)
def DP.up{q lo:Nat}{e:Ending}{w':E}(h:DP w R q lo n e w')(hn:n<=m):DP w R q lo m e w':=by obtain⟨L,g,c,h1,h2,b,f,i⟩:=h;exact⟨L,g,c,h1,h2,b,nX f hn,i⟩
def Dq{K:Nat}{f p ga ca:Nat}{r:DR}(h:DSub W f r)(m:r.2.1=Y (Q (T ga 0 Z)) r.1.h ca)(hR:Rd W R p)(i:p<=20000)(g:FitK K r.1)(hK:K<=80):Calls Tryz.prog 51 #[.pointer (Q (T R 0 Z)),ZJ #[Y (Q (T ga 0 Z)) r.1.h ca]] W λe n=>DP W R (p+1000) 0 (200+K+1) e n:=by
 by_cases j:r.1.h=0;{rw[j];exact(xB R p ga ca W hR i).P λ_ _ h=>h.up (by omega)}
 ·obtain⟨a,j_,e,q⟩:=h.ins;rw[m] at e;obtain⟨rfl,-,-⟩:=T6 e;rcases q with h1|⟨b,off,o,l⟩
  {exact absurd h1 j}
  ·cases o
   exact nY (200+K) ⟨by omega,by omega⟩ R p ga ca r.1.h r.1.q W hR i l ⟨by omega,g.an⟩ g.asz
section
variable {K:Nat}{w W:E}{R X q c g k ga ca gl cl:Nat}{D:List DR}{r:DR}
def SpS.dc (h:SpS K w R X W q (Q (T g 0 Z)) c D)(b:D[k]?=Q r)(i:r.2.1=Y (Q (T ga 0 Z)) r.1.h ca)(f:r.2.2=Y (Q (T gl 0 Z)) r.1.f cl):ZW W (T X 0 Z)=Q (Y (Q (T g 0 Z)) (ZU D) c)/\DC W g (k*6) r.1 ga ca gl cl:=
 ⟨h.ab.1,(h.G (j:=0) b (by omega) rfl).1,(h.G (j:=1) b (by omega) rfl).1,(h.G (j:=2) b (by omega) rfl).1,(h.G (j:=3) b (by omega) rfl).1,(h.G (j:=4) b (by omega) (by rw[<-i];rfl)).1,(h.G (j:=5) b (by omega) (by rw[<-f];rfl)).1⟩
def FzC (W:E)(g i:Nat):Prop:=ZX W (T g i Z)=ZA/\∃u,ZW W (T g i Z)=Q u
def SpS.fz6 (h:SpS K w R X W q (Q (T g 0 Z)) c D)(i:D[k]?=Q r):FzC W g (k*6)/\FzC W g (k*6+1)/\FzC W g (k*6+2)/\FzC W g (k*6+3)/\FzC W g (k*6+4)/\FzC W g (k*6+5):=by
 have f:∀j,j<6->FzC W g (k*6+j):=λj b=>by have h:=h.G (j:=j) i b (gq (show j<(ddV r).length from b));exact⟨h.2,_,h.1⟩
 exact⟨f 0 (by omega),f 1 (by omega),f 2 (by omega),f 3 (by omega),f 4 (by omega),f 5 (by omega)⟩
end
def ts (JL:GL)(K0 ZM:Nat)(hK0:K0+1<=ZM)(hKK:ZM<=50)(R p:Nat)(a:O_)(n j_:Nat)(f:Nat->au)(w:E)(hf:SlDeed w a n f)(J8:∀i,i<n->FitK K0 (f i))(hn:n<=450+K0)(hR:Rd w R p)(hp:p<=19000):Calls Tryz.prog 20 #[.pointer (Q (T R 0 Z)),ZJ #[Y a n j_]] w λe w'=>DAK ZM w R (p+1100) e w':=by
 have LU:=ae JL;clear JL;have HF:=ae hf;have JW:=ae J8;have HR:=ae hR;have JX:=hR.lt;clear hf J8 hR;have A0:=ae (((BS w).alloc ly (N #[Y a n j_] 25)).alloc (by simp) (N #[Y Z 0 0] 25));have J0:Hid ((ZV (ZV w (N #[Y a n j_] 25)) (N #[Y Z 0 0] 25)).heap[z (B w)+1]?=Q (N #[Y Z 0 0] 25 (0,0))):=by have h:=gM (ZV w (N #[Y a n j_] 25)) (N #[Y Z 0 0] 25);rw[show(z (B (ZV w (N #[Y a n j_] 25))))=z (B w)+1 by simp] at h;exact h
 have aq:z (B (ZV (ZV w (N #[Y a n j_] 25)) (N #[Y Z 0 0] 25)))=z (B w)+2:=by simp
 go_enter func20,ntmps20;go_wp2_with fail;generalize World.alloc (World.alloc w _) _=W0 at A0 J0 aq ⊢;refine(AV a n j_ f _ (by omega) (HF.aa A0 ly) (λi hi=>((JW i hi).d (by omega)).fits)).P ?_;rintro e w1⟨a1,c1,D,rfl,hD,Hx,Kc,ro⟩;have ld:=ae Kc;have KZ:=ae hD.up;clear Kc;have hl:ZU D=n:=by have:=xT List.length Hx;simpa using this
 have ur:Hid (∀r∈D,FitK K0 r.1):=λr hr=>by have hm:r.1∈D.map (·.1):=NM.2 ⟨r,hr,rfl⟩;rw[Hx] at hm;obtain⟨i,hi,e⟩:=NM.1 hm;rw[<-e];exact JW i (E4.1 hi)
 have Ko:=ro.size;have B2:=(BS w1).alloc ly (N #[Y a1 (ZU D) c1] 25);have S1:Hid (SpS ZM w R (z (B w1)) (ZV w1 (N #[Y a1 (ZU D) c1] 25)) p a1 c1 D):=by have O1:zt R w w1:=(zt.l A0).k (zt.l (ro.P (by omega)));exact⟨((HR.aa A0 ly).aa ro (by omega)).aa B2 ly,O1.k (zt.l B2),(B2.p _ (by omega)).k ((ro.p _ (by omega)).k J0),gM w1 _,((hD.rw.aa B2 ly).P (by omega)),λr hr=>(ur r hr).up (by omega),JX,by omega,by omega⟩
 have hX:z (B w)+2<=z (B w1):=by omega
 have hD9:ZU D<=450+K0:=by omega
 clear hD ro B2 Ko aq A0 J0 HF JW HR Hx hl;go_upto_region 2 with fail;generalize World.alloc w1 _=W1 at S1 ⊢;generalize (z (B w1))=X at S1 hX ⊢;have bx:=S1.ab.1;by_cases hz:ZU D=0
 ·obtain rfl:D=[]:=VJ.1 hz;rw[IS] at bx;clear hz;go_wp2_with fail;refine(ay R _ 2 _ S1.rd (by omega) (by omega) (by omega)).P ?_;rintro e w2⟨x,rfl,x0,x1,Fd,Bk⟩;have H:=ae (S1.ac Bk Fd);clear Bk Fd S1 bx;go_wp2_with fail;refine(ay R _ 3 _ H.rd (by omega) (by omega) (by omega)).P ?_;rintro e M⟨y,rfl,y0,y1,sm,qr⟩;have l:=ae (H.ac qr sm);clear qr sm H;obtain⟨m,hm⟩:∃m:Nat,400*x+y=(m:Int):=⟨(400*x+y).toNat,by omega⟩
  have LN:IntKind.i64.wrap (400*x)=400*x:=by rw[nL];omega
  have LD:m<=450:=by omega
  have hw2:IntKind.i64.wrap (m:Int)=(m:Int):=by rw[nL];omega
  have hmk:=λw=>Iy m (by omega) w;have rs:=l.rs;have r0:ZW M (T (z (B w)+1) 0 Z)=Q (Y Z 0 0):=by simp[World.cell?,rs]
  have f0:ZX M (T (z (B w)+1) 0 Z)=ZA:=by simp[World.frozen?,rs]
  have l0:=aj rs;have FN:=ae (Dc (m:=m) (ZO:=p+1100) l LD (by omega));clear rs;go_wp2;exact bp (v:=ZJ #[Y (Q (T (z (B M)) 0 Z)) m m]) (by simp[results,results20,go_sem,r0,l0]) rfl FN.i
 obtain⟨g,Ls,e⟩:=dr S1.row.u (by omega);obtain⟨rfl,-,-⟩:=T6 e;clear e Ls;have nz:¬ ((ZU D:Int)=0):=by omega
 go_wp2_with fail;refine(ay R _ (ZU D:Int) _ S1.rd (by omega) (by omega) (by omega)).P ?_;rintro e w2⟨ZZ,rfl,aq,n8,Fd,Bk⟩;obtain⟨k,rfl⟩:=p9 aq;have hk:k<ZU D:=by omega
 have S0:=ae (S1.ac Bk Fd);clear Bk Fd S1 aq n8 bx;obtain⟨r,hr,hm⟩:=dG hk;have ZL:=ae hr;have HM:=ae hm;clear hr hm;go_wp2_with fail;refine(ay R _ 13 _ S0.rd (by omega) (by omega) (by omega)).P ?_;rintro e M⟨s,rfl,hs0,Ko,sm,qr⟩;have H:=ae (S0.ac qr sm);clear qr sm S0;have JS:=ur r HM;have P:=JS.up (show K0<=ZM by omega);have htx:=JS.tx;have Lu:=JS.ln;go_upto_block 0 with fail;go_cut [8,9,10,11,12] (λ_ _ _ _ _ wx=>∃(a':O_) (c' q':Nat) (D':List DR),q'<=p+1100/\Hid (SpS ZM w R X wx q' a' c' D'));case first =>
  rcases(show(s=0\/s=1\/s=2\/s=3\/s=4\/s=5)\/(s=6\/s=7\/s=8)\/s=9\/s=10\/s=11\/s=12 by omega) with (h|h|h|h|h|h)|h6|rfl|rfl|rfl|rfl;rotate_left 6
  ·as_aux_lemma =>
    obtain⟨⟨ga,ca,ea⟩,gl,cl,el⟩:=ld.i r HM;have EA:=ae ea;have EL:=ae el;clear ea el;rcases h6 with rfl|rfl|rfl;iterate 3
     ·go_wp2_with fail
      refine aI (λV=>ZW V (T X 0 Z)=Q (Y (Q (T g 0 Z)) (ZU D) c1)/\DC V g (k*6) r.1 ga ca gl cl) 11 (by kernel_rfl) ?_;have l:=ae (H.aa br.drew);clear H;generalize M.drew=ZT at l ⊢;have Z8:=ae (l.dc ZL EA EL)
      iterate 9
       refine aO 0 (v:=?_) rfl rfl (by kernel_rfl) (λ_ _ _ h=>h) rfl ?_ Z8 ?_;rotate_left
       ·(rintro wz⟨s0,s1,s2,s3,s4,s5,s6⟩;go_simp)
        (try with_reducible rfl)
       (try simp only[p_,z_])
      refine ai (i:=9) rfl (by kernel_rfl) λK A=>?_;go_simp;go_at_call 52;refine(qV (200+K0) ⟨by omega,by omega⟩ w R _ (z (B w)+2) gl cl r.1.f r.1.m r.1.e r.1.H r.1.L r.1.M (Q (T ga 0 Z)) r.1.h ca _ l.o JX (by omega) (by have:=l.lt;omega) l.rd (by omega) (by rw[<-EL.i];exact(l.row.sub r HM).az) Lu P.lsz).P ?_;rintro e ZQ⟨g5,n5,c5,f5,rfl,J4,Kf,KM,⟨q5,hq5,Kj⟩,Kq,fd⟩;obtain⟨kX,kg,Lc⟩:=l.kept HM EL fd;have ZN:Hid (SpS ZM w R X (jm ZQ g k ({ r.1 with f:=n5,m:=f5 },Y (Q (T ga 0 Z)) r.1.h ca,Y (Q (T g5 0 Z)) n5 c5)) q5 (Q (T g 0 Z)) c1 _):=l.deed KZ ZL HM EL Kj Kq fd _ ⟨l.actK HM EA EL fd,J4⟩ ⟨P.nm,P.tx,P.an,P.asz,by show n5<=200+ZM;omega,KM⟩;have F4:Hid (∀j,j<6->ZX ZQ (T g (k*6+j) Z)=ZA):=λj hj=>(NF (a:=(T g (k*6+j) Z)) kg).k (l.G (j:=j) ZL hj (gq (show j<(ddV r).length from hj))).2;have th:Hid (ZW ZQ (T X 0 Z)=Q (Y (Q (T g 0 Z)) (ZU D) c1)/\DC ZQ g (k*6) r.1 ga ca gl cl):=⟨(cq (a:=(T X 0 Z)) kX).k Z8.1,(cq (a:=(T g (k*6) Z)) kg).k Z8.2.1,(cq (a:=(T g (k*6+1) Z)) kg).k Z8.2.2.1,(cq (a:=(T g (k*6+2) Z)) kg).k Z8.2.2.2.1,(cq (a:=(T g (k*6+3) Z)) kg).k Z8.2.2.2.2.1,(cq (a:=(T g (k*6+4) Z)) kg).k Z8.2.2.2.2.2.1,(cq (a:=(T g (k*6+5) Z)) kg).k Z8.2.2.2.2.2.2⟩
      clear Kj Kq fd J4 KM kX kg Z8 l;have Z8:=th;clear th;refine A _ _ (λ_=>Z8) ?_;clear A K
      (try simp only[p_,z_])
      refine ai (i:=10) rfl (by kernel_rfl) λK A=>?_;go_simp;refine A _ _ (λ_=>Z8) ?_;clear A K
      (try simp only[p_,z_])
      obtain⟨-,d0,d1,d2,d3,d4,d5⟩:=Z8.i;have y0:=F4.i 0 (by omega);have y1:=F4.i 1 (by omega);have y2:=F4.i 2 (by omega);have y3:=F4.i 3 (by omega);have y4:=F4.i 4 (by omega);have y5:=F4.i 5 (by omega);rw[QE] at y0;refine ai (i:=11) rfl (by kernel_rfl) λK A=>?_;go_simp;refine A _ _ (λh=>absurd rfl h) ?_;clear A K Z8
      (try simp only[p_,z_])
      refine ba (by kernel_rfl) ?_ _;clear d0 d1 d2 d3 d4 d5 y0 y1 y2 y3 y4 y5;go_wp2;go_meet;exact⟨_,_,_,_,by omega,ZN⟩
  ·skip;by_cases LA:(0:Int)<(k:Int)
   ·obtain⟨m,rfl⟩:∃m,k=m+1:=⟨k - 1,by omega⟩
    have h1l:(1:Int)<(ZU D:Int):=by omega
    obtain⟨r1,KJ,JR⟩:=dG (R:=D) (i:=m) (by omega);have Kr:=ae KJ;have Ka:=ae JR;clear KJ JR;obtain⟨⟨ga,ca,ea⟩,gl,cl,el⟩:=ld.i r HM;obtain⟨⟨gb,cb,eb⟩,gm,cm,em⟩:=ld.i r1 Ka;have EA:=ae ea;have EL:=ae el;have EB:=ae eb;have EM:=ae em;clear ea el eb em;have LC:=((ur r1 Ka).up (show K0<=ZM by omega))
    have bx:=H.ab.1;have C2:=ae (H.dc ZL EA EL).2;obtain⟨e0,e1,e2,e3,e4,e5⟩:=C2.i;have AB:=ae ((BS M).alloc ly (N #[U r.1.e,J I r.1.L,J I r.1.M,U r.1.H,Y (Q (T ga 0 Z)) r.1.h ca,Y (Q (T gl 0 Z)) r.1.f cl] 62));have YB:=ae (gM M (N #[U r.1.e,J I r.1.L,J I r.1.M,U r.1.H,Y (Q (T ga 0 Z)) r.1.h ca,Y (Q (T gl 0 Z)) r.1.f cl] 62));have l:=ae (H.aa AB);have hwm:IntKind.i64.wrap (((m+1:Nat):Int) - 1)=(m:Int):=by rw[nL];omega
    have hwm2:IntKind.i64.wrap (m:Int)=(m:Int):=by rw[nL];omega
    have hml:m<ZU D:=by omega
    have LV:(m:Int)+1<(ZU D:Int):=by omega
    have hk2:(0:Int)<=(m:Int)+1:=by omega
    have LG:((m:Int)+1).toNat=m+1:=by omega
    go_upto_region 41 with fail;generalize World.alloc M _=v2 at l YB ⊢;have Kk:z (B M)≠g:=by have:=H.gb.2.1;omega
    generalize (z (B M))=yb at YB Kk ⊢;clear bx e0 e1 e2 e3 e4 e5 C2 AB H;refine aI (λV=>ZW V (T X 0 Z)=Q (Y (Q (T g 0 Z)) (ZU D) c1)/\DC V g (m*6) r1.1 gb cb gm cm) 10 (by kernel_rfl) ?_;have C:=ae (l.aa br.drew);have JZ:Hid (v2.drew.heap[yb]?=Q (N #[U r.1.e,J I r.1.L,J I r.1.M,U r.1.H,Y (Q (T ga 0 Z)) r.1.h ca,Y (Q (T gl 0 Z)) r.1.f cl] 62 (0,0))):=YB.i;clear l YB;generalize v2.drew=ZT at C JZ ⊢;have Z8:=ae (C.dc Kr EB EM);iterate 9
     refine aO 0 (v:=?_) rfl rfl (by kernel_rfl) (λ_ _ _ h=>h) rfl ?_ Z8 ?_;rotate_left
     ·(rintro wz⟨s0,s1,s2,s3,s4,s5,s6⟩;go_simp)
      (try with_reducible rfl)
     (try simp only[p_,z_])
    refine ai (i:=9) rfl (by kernel_rfl) λK A=>?_;go_simp;refine A _ _ (λ_=>Z8) ?_;clear A K
    (try simp only[p_,z_])
    obtain⟨⟨y0,u0,d0⟩,⟨y1,u1,d1⟩,⟨y2,u2,d2⟩,⟨y3,u3,d3⟩,⟨y4,u4,d4⟩,y5,u5,d5⟩:=C.fz6 ZL;have Lc:=C.gb.2.1;have ZN:=ae (C.six ZL (r1.1,Y (Q (T gb 0 Z)) r1.1.h cb,Y (Q (T gm 0 Z)) r1.1.f cm) ((C.row.sub r1 Ka).form EB EM) LC);have JV:=ae ((fF ZT g (m+1) yb (r1.1,Y (Q (T gb 0 Z)) r1.1.h cb,Y (Q (T gm 0 Z)) r1.1.f cm) Kk).k JZ);have T5:Hid (DSub (jm ZT g (m+1) (r1.1,Y (Q (T gb 0 Z)) r1.1.h cb,Y (Q (T gm 0 Z)) r1.1.f cm)) (z (B w)+2) (r.1,Y (Q (T ga 0 Z)) r.1.h ca,Y (Q (T gl 0 Z)) r.1.f cl)):=by obtain⟨cs,ZZ,hg⟩:=C.gb.2.2.2;exact((C.row.sub r HM).form EA EL).six hg
    unfold jm at ZN JV T5;refine ai (i:=10) rfl (by kernel_rfl) λK A=>?_;go_simp;refine A _ _ (λh=>absurd rfl h) ?_;clear A K Z8
    (try simp only[p_,z_])
    refine ba (by kernel_rfl) ?_ _;clear d0 d1 d2 d3 d4 d5 y0 y1 y2 y3 y4 y5 Lc C JZ;go_upto_region 42 with fail;generalize World.setCell (World.setCell (World.setCell (World.setCell (World.setCell (World.setCell ZT _ _) _ _) _ _) _ _) _ _) _ _=v5 at ZN JV T5 ⊢;have la:Hid ((D.set (m+1) (r1.1,Y (Q (T gb 0 Z)) r1.1.h cb,Y (Q (T gm 0 Z)) r1.1.f cm))[m]?=Q r1):=by show _=_;rw[QZ (by omega)];exact Kr
    have ZP:=ae (ZN.six la (r.1,Y (Q (T ga 0 Z)) r.1.h ca,Y (Q (T gl 0 Z)) r.1.f cl) T5 P);have bx:=ZN.ab.1;rw[NI] at bx;have L:=JV.i;have q0:ZW v5 (T yb 0 Z)=Q (U r.1.e):=by simp[World.cell?,L]
    have q1:ZW v5 (T yb 1 Z)=Q (J I r.1.L):=by simp[World.cell?,L]
    have q2:ZW v5 (T yb 2 Z)=Q (J I r.1.M):=by simp[World.cell?,L]
    have q3:ZW v5 (T yb 3 Z)=Q (U r.1.H):=by simp[World.cell?,L]
    have q4:ZW v5 (T yb 4 Z)=Q (Y (Q (T ga 0 Z)) r.1.h ca):=by simp[World.cell?,L]
    have q5:ZW v5 (T yb 5 Z)=Q (Y (Q (T gl 0 Z)) r.1.f cl):=by simp[World.cell?,L]
    obtain⟨⟨y0,u0,d0⟩,⟨y1,u1,d1⟩,⟨y2,u2,d2⟩,⟨y3,u3,d3⟩,⟨y4,u4,d4⟩,y5,u5,d5⟩:=ZN.fz6 la;have gl5:=ZN.gb.2.1;clear L ZN;go_wp2;go_meet;exact⟨_,_,_,_,by omega,ZP⟩
   ·by_cases h1:(1:Int)<(ZU D:Int)
    iterate 2
     ·go_wp2
      go_meet;exact⟨_,_,_,_,by omega,H⟩
  ·as_aux_lemma =>
    have hcap:=jY H.row.u;obtain⟨JN,hj,aq,n8,JH⟩:=NO gC;have LN:IntKind.i64.wrap ((k:Int)+1)=(k:Int)+1:=by rw[nL];omega
    have LV:(k:Int)+1<=(ZU D:Int):=by omega
    have LG:((k:Int)+1).toNat=k+1:=by omega
    have hkc:(k:Int)<=(c1:Int):=by omega
    have LA:(0:Int)<=(k:Int)+1:=by omega
    obtain⟨A2,Lm,KO⟩:=Au (base:=z (B w)+2) (g:=g) (c:=c1) hk (by omega);have Lt:=ae KO;clear KO;go_wp2_with fail;refine aI (λV=>ZW V (T X 0 Z)=Q (Y (Q (T g 0 Z)) (ZU D) c1)) 13 (by kernel_rfl) ?_;have l:=ae (H.aa br.drew);clear H;generalize M.drew=ZT at l ⊢;have Z8:=ae l.ab.1;iterate 4
     refine aO 1 (v:=?_) rfl rfl (by kernel_rfl) (λ_ _ _ h=>h) rfl ?_ Z8 ?_;rotate_left
     ·(intro wz s0;go_simp)
      (try with_reducible rfl)
     (try simp only[p_,z_])
    iterate 5
     refine aO 6 (v:=?_) rfl rfl (by kernel_rfl) (λ_ _ _ h=>h) rfl ?_ Z8 ?_;rotate_left
     ·(intro wz s0;go_simp)
      (try with_reducible rfl)
     (try simp only[p_,z_])
    clear Lm;refine ai (i:=0) rfl (by kernel_rfl) λK A=>?_;go_simp;have Kw:=l.lt;have Lz:=l.hX;have A4:=ae ((BS ZT).alloc ly (N #[] 62));have O4:=ae (OU (base:=z (B w)+2) (e:=62) (size:=6) ZT #[] 0 (by omega) (by unfold maxLen;omega) rfl);have C:=ae (l.aa A4);have th:=ae C.ab.1;refine A _ _ (λ_=>th) ?_;clear A K
    (try simp only[p_,z_])
    refine ai (i:=5) rfl (by kernel_rfl) (λK A=>?_);refine aU rfl (.tmp 247) (.tmp 251) 23 rfl (z (B w)+2) 62 JN (ZJ #[U ⟨#[]⟩,J I 0,J I 0,U ⟨#[]⟩,Y Z 0 0,Y Z 0 0]) 6 96 QB hj aq n8 JH rfl (by decide) (Y (Q (T (z (B ZT)) 0 Z)) 0 0) 0 [] (by simp[Act.eval]) O4.i (T g 0 Z) k c1 ((D.take k).flatMap ddV) (by simp[Act.eval]) (by rw[fA ddV 6 (λ_=>rfl),N9,QL (by omega)]) (Dj k C.row.u) (λu hu=>rV D ld u (by obtain⟨ZR,h2,h3⟩:=QP.1 hu;exact QP.2 ⟨ZR,QW h2,h3⟩)) (by unfold maxLen;omega) (by omega) (by simp;omega) ?_;intro v5 w5 ph Fk JY;simp only[IT,NR] at ph;have B5:=ae (bg A4 Fk (by simp) (λj e=>by simp[Value.ownBlock] at e;omega));have J6:∀j,v5.ownBlock=Q j->z (B ZT)<=j:=λj e=>by
     rcases JY with h|h;{rw[h] at e;simp[Value.ownBlock] at e;omega};{rw[h] at e;have:=IH e;simp at this;omega}
    have WB:=ae J6;have O5:=ae ph;have ZN:=ae (l.aa B5);have Ks:=ae ZN.ab.1;clear ph Fk JY J6 C O4 A4 th Z8;refine A _ _ (λ_=>Ks) ?_;clear A K
    (try simp only[p_,z_])
    obtain⟨a5,c5,rfl⟩:=aJ O5;refine ai (i:=11) rfl (by kernel_rfl) λK A=>?_;refine aU rfl (.tmp 252) (.tmp 257) 23 rfl (z (B w)+2) 62 JN (ZJ #[U ⟨#[]⟩,J I 0,J I 0,U ⟨#[]⟩,Y Z 0 0,Y Z 0 0]) 6 96 QB hj aq n8 JH rfl (by decide) (Y a5 k c5) k ((D.take k).flatMap ddV) (by simp[Act.eval]) O5.i A2 (ZU D - (k+1)) (c1 - (k+1)) ((D.drop (k+1)).flatMap ddV) (by simp[Act.eval]) (by rw[fA ddV 6 (λ_=>rfl),NN]) (Lt _ ZN.row.u) (λu hu=>rV D ld u (by obtain⟨ZR,h2,h3⟩:=QP.1 hu;exact QP.2 ⟨ZR,XE h2,h3⟩)) (by unfold maxLen;omega) (by omega) (by have:=B5.size;omega) ?_;intro v6 w6 bt DQ _;have B6:=ae (bg B5 DQ (B5.size) (λj e=>WB j e));rw[<-J1] at bt;obtain⟨a6,c6,rfl⟩:=aJ bt;obtain⟨D2,JQ⟩:∃D2,D2=D.take k++D.drop (k+1):=⟨_,rfl⟩
    have Fm:ZU D2=k+(ZU D - (k+1)):=by rw[JQ,cM,N9,NN,QL (by omega)]
    rw[<-JQ,<-Fm] at bt;rw[<-Fm];have ZP:=ae (l.aa B6);have JG:∀ZR∈D2,ZR∈D:=λZR h2=>by rw[JQ] at h2;exact(p8.1 h2).elim QW XE
    have S7:=ae (l.box_ B6 bt (λZR h2=>ZP.row.sub ZR (JG ZR h2)) (λZR h2=>ZP.aq ZR (JG ZR h2)) (by omega));clear JQ;have JI:=ae ZP.ab;clear bt DQ JG Fm ZN O5 WB Ks;refine A _ _ (λ_=>JI.1) ?_;clear A K
    (try simp only[p_,z_])
    refine ai (i:=12) rfl (by kernel_rfl) λK A=>?_;go_simp;refine A _ _ (λ_=>JI.1) ?_;clear A K
    (try simp only[p_,z_])
    have d0:=JI.1;have d1:=JI.2;have LH:=ZP.lt;refine ai (i:=13) rfl (by kernel_rfl) λK A=>?_;go_simp;refine A _ _ (λh=>absurd rfl h) ?_;clear A K
    (try simp only[p_,z_])
    refine ba (by kernel_rfl) ?_ _;clear d0 d1 LH l ZP;go_wp2;go_meet;exact⟨_,_,_,_,by omega,S7⟩
  ·as_aux_lemma =>
    go_wp2_with fail;refine(ay R _ 3 _ H.rd (by omega) (by omega) (by omega)).P ?_;rintro e w4⟨ZZ,rfl,z0,z1,ZS,G⟩;have l:=ae (H.ac G ZS);clear G ZS H;obtain⟨m,hm⟩:∃m:Nat,60+ZZ - 1=(m:Int):=⟨(60+ZZ - 1).toNat,by omega⟩
    go_wp2_with fail;refine(LU m _ (by omega)).P ?_;rintro e w5⟨a5,n5,c5,f5,rfl,Ki,J5,Kf,KV⟩;have C:=ae (l.aa J5);have rs:=C.rs;have r0:ZW w5 (T (z (B w)+1) 0 Z)=Q (Y Z 0 0):=by simp[World.cell?,rs]
    have f0:ZX w5 (T (z (B w)+1) 0 Z)=ZA:=by simp[World.frozen?,rs]
    have l0:=aj rs;have FN:=ae (l.other (ZO:=p+1100) J5 Ki Kf KV (by omega));clear rs J5 Ki Kf KV;go_wp2;try simp only[Exit.inBlock,Exit.then]
    exact bp (v:=ZJ #[Y a5 n5 c5]) (by simp[results,results20,go_sem,r0]) rfl FN.i
  ·skip;have AB:=ae ((BS M).alloc ly (N #[U ⟨#[117,110,117,115,101,100]⟩,J I 2,J I 0,U ⟨#[]⟩,Y Z 0 0,Y Z 0 0] 62));have FB:=ae (gM M (N #[U ⟨#[117,110,117,115,101,100]⟩,J I 2,J I 0,U ⟨#[]⟩,Y Z 0 0,Y Z 0 0] 62));have l:=ae (H.aa AB);have KT:z (B w)+2<=z (B M):=by have:=H.lt;omega
   have KH:z (B M)≠X:=by have:=H.lt;omega
   have KI:z (B M)≠g:=by have:=H.gb.2.1;omega
   go_wp2_with fail;generalize World.alloc M _=v2 at l FB ⊢;generalize (z (B M))=fb at FB KT KH KI ⊢;clear AB H;go_loopg [10] (ZU D) (λgh i wr=>∃(k2 q2:Nat) (nm tx:F_) (kd:Int),k2+gh=ZU D/\q2<=p+2+k2/\i=J I k2/\nm.size<=5000/\tx.size<=2000+K0/\Hid (SpS ZM w R X wr q2 (Q (T g 0 Z)) c1 D)/\Hid (wr.heap[fb]?=Q (N #[U nm,J I kd,J I 0,U tx,Y Z 0 0,Y Z 0 0] 62 (0,0))));case atStart=>exact⟨0,_,_,_,_,by omega,by omega,rfl,by decide,DW _,l,FB⟩
   case round =>
    clear l FB;obtain⟨k2,q2,nm,tx,kd,hg2,hq2,rfl,Kv,Lg,l,FB⟩:=hrel;have hwk:IntKind.i64.wrap ((k2:Int)+1)=(k2:Int)+1:=by rw[nL];omega
    go_upto_region 9 with fail;go_cut [41] (λLo wx=>∃(b1:Bool) (q3:Nat),Lo=ZF b1/\(b1=ZH->k2<ZU D)/\q3<=q2+1/\Hid (SpS ZM w R X wx q3 (Q (T g 0 Z)) c1 D)/\Hid (wx.heap[fb]?=Q (N #[U nm,J I kd,J I 0,U tx,Y Z 0 0,Y Z 0 0] 62 (0,0))));case first =>
     by_cases Kb:(k2:Int)<(ZU D:Int)
     {go_wp2_with fail;refine(ay R _ 2 _ l.rd (by omega) (by omega) (by omega)).P ?_;rintro e w4⟨ZZ,rfl,z0,z1,ZS,G⟩;have C:=ae (l.ac G ZS);have At:=ae ((G.p fb (aj FB) (by omega)).k FB);clear G ZS;go_wp2;go_meet;exact⟨_,_,rfl,λ_=>by omega,by omega,C,At⟩};{go_wp2;go_meet;exact⟨_,_,rfl,λh=>by simp at h,by omega,l,FB⟩}
    case rest =>
    clear l FB;obtain⟨b1,q3,rfl,LI,hq3,l,FB⟩:=hcut;cases b1 with
    |true =>
     have Kb:k2<ZU D:=LI rfl;obtain⟨ZR,Ku,Kp⟩:=dG (R:=D) Kb;have la:=ae Ku;have KN:=(ur ZR Kp)
     clear Ku Kp;have bx:=l.ab.1;have KQ:=(l.G (j:=1) la (by omega) rfl).1;by_cases h3:ZR.1.L=3
     ·rw[h3] at KQ;have H3:=ae h3;clear h3;go_wp2;go_roundg (ZU D - 1 - k2);case measure=>omega
      case rel=>exact⟨k2+1,q3,nm,tx,kd,by omega,by omega,by go_num,Kv,Lg,l,FB⟩
     ·have n3:(ZR.1.L == 3)=ZA:=by simpa using h3
      go_upto_region 12 with fail;clear bx KQ;refine aI (λV=>ZW V (T X 0 Z)=Q (Y (Q (T g 0 Z)) (ZU D) c1)/\ZW V (T g (k2*6) Z)=Q (U ZR.1.e)/\ZW V (T g (k2*6+1) Z)=Q (J I ZR.1.L)/\ZW V (T g (k2*6+3) Z)=Q (U ZR.1.H)) 19 (by kernel_rfl) ?_;have C:=ae (l.aa br.drew);have At:Hid (wc.drew.heap[fb]?=Q (N #[U nm,J I kd,J I 0,U tx,Y Z 0 0,Y Z 0 0] 62 (0,0))):=FB.i;clear l FB;generalize wc.drew=ZT at C At ⊢;have Z8:Hid (ZW ZT (T X 0 Z)=Q (Y (Q (T g 0 Z)) (ZU D) c1)/\ZW ZT (T g (k2*6) Z)=Q (U ZR.1.e)/\ZW ZT (T g (k2*6+1) Z)=Q (J I ZR.1.L)/\ZW ZT (T g (k2*6+3) Z)=Q (U ZR.1.H)):=⟨C.ab.1,by have h:=(C.G (j:=0) la (by omega) rfl).1;rwa[QE] at h,(C.G (j:=1) la (by omega) rfl).1,(C.G (j:=3) la (by omega) rfl).1⟩
      iterate 19
       refine aO 0 (v:=?_) rfl rfl (by kernel_rfl) (λ_ _ _ h=>h) rfl ?_ Z8 ?_;rotate_left
       ·(rintro wz⟨s0,s1,s2,s3⟩;go_simp)
        (try with_reducible rfl)
       (try simp only[p_,z_])
      have L:=At.i;have lf:=aj L;have q0:ZW ZT (T fb 0 Z)=Q (U nm):=by simp[World.cell?,L]
      have q1:ZW ZT (T fb 1 Z)=Q (J I kd):=by simp[World.cell?,L]
      have Lv:ZW ZT (T fb 2 Z)=Q (J I 0):=by simp[World.cell?,L]
      have LB:ZW ZT (T fb 3 Z)=Q (U tx):=by simp[World.cell?,L]
      have q4:ZW ZT (T fb 4 Z)=Q (Y Z 0 0):=by simp[World.cell?,L]
      have q5:ZW ZT (T fb 5 Z)=Q (Y Z 0 0):=by simp[World.cell?,L]
      have z0:∀j,ZX ZT (T fb j Z)=ZA:=λj=>by simp[World.frozen?,L]
      have ZN:=ae (C.aside KT KH KI L (U ZR.1.e) (J I ZR.1.L) (J I 0) (U ZR.1.H) (Y Z 0 0) (Y Z 0 0));have Ly:=ae (LBx.six (W:=ZT) (b:=fb) L (U ZR.1.e) (J I ZR.1.L) (J I 0) (U ZR.1.H) (Y Z 0 0) (Y Z 0 0));clear L;refine ai (i:=19) rfl (by kernel_rfl) λK A=>?_;go_simp;refine A _ _ (λh=>absurd rfl h) ?_;clear A K Z8
      (try simp only[p_,z_])
      refine ba (by kernel_rfl) ?_ _;clear q0 q1 Lv LB q4 q5 z0 C At;go_wp2;go_roundg (ZU D - 1 - k2);case measure=>omega
      case rel=>exact⟨k2+1,q3,ZR.1.e,ZR.1.H,ZR.1.L,by omega,by omega,by go_num,KN.nm,KN.tx,ZN,Ly⟩
    |false =>
     have L:=FB.i;have lf:=aj L;have e0:ZW wc (T fb 0 Z)=Q (U nm):=by simp[World.cell?,L]
     have e1:ZW wc (T fb 1 Z)=Q (J I kd):=by simp[World.cell?,L]
     have e2:ZW wc (T fb 2 Z)=Q (J I 0):=by simp[World.cell?,L]
     have e3:ZW wc (T fb 3 Z)=Q (U tx):=by simp[World.cell?,L]
     have e4:ZW wc (T fb 4 Z)=Q (Y Z 0 0):=by simp[World.cell?,L]
     have e5:ZW wc (T fb 5 Z)=Q (Y Z 0 0):=by simp[World.cell?,L]
     clear L;have bx:=l.ab.1;have lx:=l.lt;have Lz:=l.hX;obtain⟨JN,hj,aq,n8,JH⟩:=NO gC;have A4:=ae ((BS wc).alloc ly (N #[U nm,J I kd,J I 0,U tx,Y Z 0 0,Y Z 0 0] 62));have O4:Hid ((ZV wc (N #[U nm,J I kd,J I 0,U tx,Y Z 0 0,Y Z 0 0] 62)).ownsRow (z (B w)+2) 62 6 (Y (Q (T (z (B wc)) 0 Z)) 1 1) 1 [U nm,J I kd,J I 0,U tx,Y Z 0 0,Y Z 0 0]):=mL (cs:=#[U nm,J I kd,J I 0,U tx,Y Z 0 0,Y Z 0 0]) (by omega) (by unfold maxLen;omega) rfl;have C:=ae (l.aa A4);have Lr:=C.ab.1;have Lh:=C.ab.2;go_wp2_with (at_builtin;refine DN _ rfl (.tmp 71) (.tmp 73) 23 rfl (z (B w)+2) 62 JN (ZJ #[U ⟨#[]⟩,J I 0,J I 0,U ⟨#[]⟩,Y Z 0 0,Y Z 0 0]) 6 96 QB hj aq n8 JH rfl (by decide) (Y (Q (T (z (B wc)) 0 Z)) 1 1) 1 [U nm,J I kd,J I 0,U tx,Y Z 0 0,Y Z 0 0] (by simp[Act.eval]) O4.i (T g 0 Z) (ZU D) c1 (D.flatMap ddV) (by simp[Act.eval]) (fA ddV 6 (λ_=>rfl) D) (λj u hu=>C.row.u.cells (g:=g) rfl j u hu) (rV D ld) (by unfold maxLen;omega) (by omega) (by simp;omega) ?_;intro v5 w5 GS JJ Le;obtain⟨g5,c5,rfl⟩:=dr GS (by omega);have B5:=ae (bg A4 JJ (by simp) (λj e=>by simp[Value.ownBlock] at e;omega));have O5:=ae GS;have ZN:=ae (l.aa B5);obtain⟨Lq,LM⟩:=ZN.ab;have LF:=ZN.lt;clear GS JJ Le);obtain⟨D3,n9⟩:∃D3,D3=mJ nm tx kd::D:=⟨_,rfl⟩
     have Kg:ZU D3=1+ZU D:=by rw[n9,vF];omega
     have JK:ZY w5 (z (B w)+2) 62 6 (Y (Q (T g5 0 Z)) (ZU D3) c5) (ZU D3) (D3.flatMap ddV):=by rw[Kg,n9,NZ];exact O5
     have ZP:=ae (l.box_ B5 JK (λr6 h6=>by
      rw[n9] at h6;rcases vG.1 h6 with rfl|h6;{exact Gh _ _ _ _ _}
      ·exact ZN.row.sub r6 h6) (λr6 h6=>by
      rw[n9] at h6;rcases vG.1 h6 with rfl|h6;{exact wu kd Kv (by omega)}
      ·exact ZN.aq r6 h6) (by omega))
     have UP:Hid ((D3.map (·.2.2)).Pairwise Apt):=by rw[n9];exact Jd KZ nm tx kd
     have hn3:ZU D3<=450+ZM:=by omega
     rw[<-Kg];generalize World.setCell w5 _ _=v6 at ZP ⊢;clear JK n9 Kg O5 B5 ZN C A4 O4 l FB Lq LM LF Lr Lh bx lx e0 e1 e2 e3 e4 e5;go_loopg [11,12] (ZU D3) (λgh i _ wr=>∃(k3:Nat) (D4:List DR),k3+gh=ZU D3/\i=J I k3/\Hid (ZU D4=ZU D3)/\Hid (D4.map (·.2)=D3.map (·.2))/\Hid (SpS ZM w R X wr q3 (Q (T g5 0 Z)) c5 D4));case atStart=>exact⟨0,D3,by omega,rfl,rfl,rfl,ZP⟩
     case round =>
      clear ZP;obtain⟨k3,D4,hg3,rfl,DE,Kh,S7⟩:=hrel;have LJ:ZU D4<=450+ZM:=by have:=DE.i;omega
      have hwk3:IntKind.i64.wrap ((k3:Int)+1)=(k3:Int)+1:=by rw[nL];have:=DE.i;omega
      have Ll:=S7.ab.1;by_cases Kb:(k3:Int)<(ZU D4:Int)
      ·obtain⟨r4,Ky,Kn⟩:=dG (R:=D4) (i:=k3) (by omega);have Li:=ae Ky;have hln4:=(S7.aq r4 Kn).ln;clear Ky Kn;go_wp2_with fail;clear Ll;go_loopg [12] r4.1.f (λgh j wr=>∃(j3:Nat) (D5:List DR) (O:DR),j3+gh=r4.1.f/\j=J I j3/\Hid (ZU D5=ZU D4)/\Hid (D5.map (·.2)=D4.map (·.2))/\Hid (D5[k3]?=Q O)/\Hid (O.1.f=r4.1.f)/\Hid (SpS ZM w R X wr q3 (Q (T g5 0 Z)) c5 D5));case atStart=>exact⟨0,D4,r4,by omega,rfl,rfl,rfl,Li,rfl,S7⟩
       case round =>
        clear S7;obtain⟨j3,D5,O,hg5,rfl,JT,JU,mv,ex,S8⟩:=hrel;have Lx:k3<ZU D5:=by have:=JT.i;omega
        have Kt:=I5 mv.i;have Ke:=ae Kt;clear Kt;have hln5:O.1.f<=200+ZM:=by have:=ex.i;omega
        have hwj3:IntKind.i64.wrap ((j3:Int)+1)=(j3:Int)+1:=by rw[nL];have:=ex.i;omega
        obtain⟨al,cl,el⟩:=lQ (S8.row.sub O Ke).az;have EL:=ae el;have LP:=S8.ab.1;have Ln:_=Q (Value.slice al O.1.f cl):=(S8.G (j:=5) mv (by omega) (by rw[<-el];rfl)).1;clear el;by_cases hjl:(j3:Int)<(O.1.f:Int)
        ·have JO:j3<O.1.f:=by omega
         obtain⟨gl,LL,e2⟩:=dr (S8.row.sub O Ke).az (by omega);rw[EL.i] at e2;obtain⟨rfl,-,-⟩:=T6 e2;clear e2 LL;have OL:Hid (∀V q,SpS ZM w R X V q (Q (T g5 0 Z)) c5 D5->ZY V (z (B w)+2) 65 4 (Y (Q (T gl 0 Z)) O.1.f cl) O.1.f (cy O.1.m O.1.f)):=λV q hV=>by rw[<-EL.i];exact(hV.row.sub O Ke).az
         have ak:=(cZ (j:=1) (OL _ _ S8) JO (by omega) rfl).1;cases hask:(O.1.m j3).ask with
         |false =>
          rw[hask] at ak;clear hask;go_wp2;go_roundg (r4.1.f - 1 - j3);case measure=>have:=ex.i;omega
          case rel=>exact⟨j3+1,D5,O,by have:=ex.i;omega,by go_num,JT,JU,mv,ex,S8⟩
         |true =>
          rw[hask] at ak;clear hask;go_upto_region 21 with fail;clear LP Ln ak;refine aI (λV=>ZW V (T X 0 Z)=Q (Y (Q (T g5 0 Z)) (ZU D5) c5)/\ZW V (T g5 (k3*6+5) Z)=Q (Y (Q (T gl 0 Z)) O.1.f cl)/\ZW V (T gl (j3*4+3) Z)=Q (J I (O.1.m j3).G)) 20 (by kernel_rfl) ?_;have S9:=ae (S8.aa br.drew);clear S8;generalize wr.drew=v8 at S9 ⊢;have Z8:Hid (ZW v8 (T X 0 Z)=Q (Y (Q (T g5 0 Z)) (ZU D5) c5)/\ZW v8 (T g5 (k3*6+5) Z)=Q (Y (Q (T gl 0 Z)) O.1.f cl)/\ZW v8 (T gl (j3*4+3) Z)=Q (J I (O.1.m j3).G)):=⟨S9.ab.1,(S9.G (j:=5) mv (by omega) (by rw[<-EL.i];rfl)).1,(cZ (j:=3) (OL _ _ S9) JO (by omega) rfl).1⟩
          iterate 18
           refine aO 0 (v:=?_) rfl rfl (by kernel_rfl) (λ_ _ _ h=>h) rfl ?_ Z8 ?_;rotate_left
           ·(rintro wz⟨s0,s1,s2⟩;go_simp)
            (try with_reducible rfl)
           (try simp only[p_,z_])
          generalize IntKind.i64.wrap ((O.1.m j3).G+1)=zz;iterate 2
           refine bV 18 rfl rfl (by kernel_rfl) λK A=>?_;go_simp;refine A _ _ (λ_=>Z8) ?_;clear A K
           (try simp only[p_,z_])
          have d0:=Z8.2.2;have d1:=(cZ (j:=3) (OL _ _ S9) JO (by omega) rfl).2;have LE:=((OL _ _ S9).lt gl rfl).2;have Kl:(D5.map (·.2.2)).Pairwise Apt:=by
           have e3:D5.map (·.2.2)=D3.map (·.2.2):=by have e4:=xT (List.map Prod.snd) (JU.k Kh);rw[List.map_map,List.map_map] at e4;exact e4
           rw[e3];exact UP
          have Lj:=ae (S9.az Kl mv EL JO zz);clear Kl;refine ai (i:=20) rfl (by kernel_rfl) λK A=>?_;go_simp;refine A _ _ (λh=>absurd rfl h) ?_;clear A K Z8
          (try simp only[p_,z_])
          refine ba (by kernel_rfl) ?_ _;clear d0 d1 LE S9;go_wp2;go_roundg (r4.1.f - 1 - j3);case measure=>have:=ex.i;omega
          case rel=>exact⟨j3+1,D5.set k3 (atD O.1 j3 zz,O.2),(atD O.1 j3 zz,O.2),by have:=ex.i;omega,by go_num,NI.k JT,(Gg mv _).k JU,PE Lx,ex,Lj⟩
        ·go_wp2;go_roundg (ZU D3 - 1 - k3);case measure=>have:=DE.i;omega
         case rel=>exact⟨k3+1,D5,by have:=DE.i;omega,by go_num,JT.k DE,JU.k Kh,S8⟩
      {go_wp2;go_meet;exact⟨_,_,_,_,by omega,S7⟩}
  all_goals
   as_aux_lemma =>
    first
     |have e:s=0:=h
      subst e;obtain⟨r0,Kx,JM⟩:=dG (R:=D) (i:=0) (by omega);have H0:=ae Kx;have LQ:r0.1.e.size<=5000:=(ur r0 JM).nm;clear Kx JM;go_wp2_with fail;refine aI (λV=>ZW V (T X 0 Z)=Q (Y (Q (T g 0 Z)) (ZU D) c1)/\ZW V (T g 0 Z)=Q (U r0.1.e)) 16 (by kernel_rfl) ?_;have l:=ae (H.aa br.drew);clear H;generalize M.drew=ZT at l ⊢;have hD0:0<ZU D:=by omega
      have Z8:Hid (ZW ZT (T X 0 Z)=Q (Y (Q (T g 0 Z)) (ZU D) c1)/\ZW ZT (T g 0 Z)=Q (U r0.1.e)):=⟨l.ab.1,by have h:=(l.G (k:=0) (j:=0) H0 (by omega) rfl).1;simpa using h⟩
      iterate 8
       refine aO 0 (v:=?_) rfl rfl (by kernel_rfl) (λ_ _ _ h=>h) rfl ?_ Z8 ?_;rotate_left
       ·(rintro wz⟨s0,s1⟩;go_simp)
        (try with_reducible rfl)
       (try simp only[p_,z_])
      refine aO 10 (v:=?_) rfl rfl (by kernel_rfl) (λ_ _ _ h=>h) rfl ?_ Z8 ?_;rotate_left
      ·(rintro wz⟨s0,s1⟩;go_simp)
       (try with_reducible rfl)
      (try simp only[p_,z_])
      refine ai (i:=8) rfl (by kernel_rfl) λK A=>?_;go_simp;go_at_call 35;obtain⟨m1,JR⟩:∃m1:Nat,(61:Int)=(m1:Int):=⟨61,rfl⟩
      rw[JR];refine(eP ⟨#[110]⟩ m1 _ (by show 1*m1<=4000;omega) (by omega)).P ?_;rintro e v6⟨t,rfl,ht,hw⟩;rw[hw];have Kd:t.size<=5000:=nX ht (by show 1*m1<=5000;omega);clear ht hw;refine A _ _ (λ_=>Z8) ?_;clear A K
      (try simp only[p_,z_])
      refine pu (i:=9) (j:=11) rfl rfl (by kernel_rfl) (λK A=>?_) λK A=>?_
      focus
       go_simp;have A4:=(BS ZT).alloc ly (N #[U ⟨#[]⟩,U ⟨#[120,32,121]⟩,U r0.1.e,U t] 9);have HL:Hid ((ZV ZT (N #[U ⟨#[]⟩,U ⟨#[120,32,121]⟩,U r0.1.e,U t] 9)).heap[z (B ZT)]?=Q (N #[U ⟨#[]⟩,U ⟨#[120,32,121]⟩,U r0.1.e,U t] 9 (0,0))):=gM ZT _;have C:=ae (l.aa A4);have J9:=l.lt;have J7:=l.hX;have JP:z (B ZT)≠R:=by omega
       clear A4 Z8 J9 J7;generalize World.alloc ZT _=ZQ at C HL ⊢;generalize (z (B ZT))=La at HL JP ⊢;have Z8:Hid (ZW ZQ (T X 0 Z)=Q (Y (Q (T g 0 Z)) (ZU D) c1)/\ZW ZQ (T g 0 Z)=Q (U r0.1.e)):=⟨C.ab.1,by have h:=(C.G (k:=0) (j:=0) H0 (by omega) rfl).1;simpa using h⟩
       refine A _ _ (λ_=>Z8) ?_;clear A K
       (try simp only[p_,z_])
       refine ai (i:=11) rfl (by kernel_rfl) λK A=>?_;go_simp;go_at_call 19;refine(ay R _ 4 _ C.rd (by omega) (by omega) (by omega)).P ?_;rintro e v5⟨z4,rfl,Id,Ld,ZS,G⟩;obtain⟨m,rfl⟩:=p9 Id;have hm:m<4:=by omega
       have ZP:=ae (C.ac G ZS);have HL:=ae ((G.p La (aj HL) JP).k HL);clear G ZS C Z8;have Z8:Hid (ZW v5 (T X 0 Z)=Q (Y (Q (T g 0 Z)) (ZU D) c1)/\ZW v5 (T g 0 Z)=Q (U r0.1.e)):=⟨ZP.ab.1,by have h:=(ZP.G (k:=0) (j:=0) H0 (by omega) rfl).1;simpa using h⟩
       refine A _ _ (λ_=>Z8) ?_;clear A K
       (try simp only[p_,z_])
      rotate_left
      focus
       go_simp;go_at_call 19;refine(ay R _ 4 _ l.rd (by omega) (by omega) (by omega)).P ?_;rintro e ZQ⟨z4,rfl,Id,Ld,ZS,G⟩;obtain⟨m,rfl⟩:=p9 Id;have hm:m<4:=by omega
       have C:=ae (l.ac G ZS);clear G ZS l Z8;have Z8:Hid (ZW ZQ (T X 0 Z)=Q (Y (Q (T g 0 Z)) (ZU D) c1)/\ZW ZQ (T g 0 Z)=Q (U r0.1.e)):=⟨C.ab.1,by have h:=(C.G (k:=0) (j:=0) H0 (by omega) rfl).1;simpa using h⟩
       refine A _ _ (λ_=>Z8) ?_;clear A K
       (try simp only[p_,z_])
       refine ai (i:=9) rfl (by kernel_rfl) λK A=>?_;go_simp;have A4:=(BS ZQ).alloc ly (N #[U ⟨#[]⟩,U ⟨#[120,32,121]⟩,U r0.1.e,U t] 9);have HL:Hid ((ZV ZQ (N #[U ⟨#[]⟩,U ⟨#[120,32,121]⟩,U r0.1.e,U t] 9)).heap[z (B ZQ)]?=Q (N #[U ⟨#[]⟩,U ⟨#[120,32,121]⟩,U r0.1.e,U t] 9 (0,0))):=gM ZQ _;have ZP:=ae (C.aa A4);have J9:=C.lt;have J7:=C.hX;have JP:z (B ZQ)≠R:=by omega
       clear A4 Z8 J9 J7;generalize World.alloc ZQ _=v5 at ZP HL ⊢;generalize (z (B ZQ))=La at HL JP ⊢;have Z8:Hid (ZW v5 (T X 0 Z)=Q (Y (Q (T g 0 Z)) (ZU D) c1)/\ZW v5 (T g 0 Z)=Q (U r0.1.e)):=⟨ZP.ab.1,by have h:=(ZP.G (k:=0) (j:=0) H0 (by omega) rfl).1;simpa using h⟩
       refine A _ _ (λ_=>Z8) ?_;clear A K
       (try simp only[p_,z_])
      all_goals
       obtain⟨zz,Lp,hzz⟩:=Gp HL (by decide) (by decide) LQ Kd m hm
       iterate 4
        refine bV 12 rfl rfl (by kernel_rfl) λK A=>?_;go_simp;refine A _ _ (λ_=>Z8) ?_;clear A K
        (try simp only[p_,z_])
       obtain⟨d0,d1⟩:=ZP.G (j:=0) ZL (by omega) rfl;rw[QE] at d0 d1;have gl:=ZP.gb.2.1;have S9:=ae (ZP.ao (j:=0) (u:=U zz) (r':=({ r.1 with e:=zz },r.2)) ZL (by omega) rfl ((ZP.row.sub r HM).same _ rfl rfl rfl rfl) (P.e Lp))
     |have e:s=1:=h
      subst e;go_wp2_with fail;refine aI (λV=>ZW V (T X 0 Z)=Q (Y (Q (T g 0 Z)) (ZU D) c1)) 7 (by kernel_rfl) ?_;have l:=ae (H.aa br.drew);clear H;generalize M.drew=ZT at l ⊢;have Z8:=ae l.ab.1
      iterate 4
       refine aO 0 (v:=?_) rfl rfl (by kernel_rfl) (λ_ _ _ h=>h) rfl ?_ Z8 ?_;rotate_left
       ·(intro wz s0;go_simp)
        (try with_reducible rfl)
       (try simp only[p_,z_])
      refine ai (i:=4) rfl (by kernel_rfl) λK A=>?_;go_simp;go_at_call 19;refine(ay R _ 5 _ l.rd (by omega) (by omega) (by omega)).P ?_;rintro e ZQ⟨z4,rfl,Kz,KU,ZS,G⟩;have C:=ae (l.ac G ZS);clear G ZS l Z8;have Z8:=ae C.ab.1;refine A _ _ (λ_=>Z8) ?_;clear A K
      (try simp only[p_,z_])
      iterate 2
       refine bV 5 rfl rfl (by kernel_rfl) λK A=>?_;go_simp;refine A _ _ (λ_=>Z8) ?_;clear A K
       (try simp only[p_,z_])
      obtain⟨d0,d1⟩:=C.G (j:=1) ZL (by omega) rfl;have gl:=C.gb.2.1;have S9:=ae (C.ao (j:=1) (u:=J I z4) (r':=({ r.1 with L:=z4 },r.2)) ZL (by omega) rfl ((C.row.sub r HM).same _ rfl rfl rfl rfl) (P.L z4))
     |have e:s=2:=h
      subst e;go_wp2_with fail;refine aI (λV=>ZW V (T X 0 Z)=Q (Y (Q (T g 0 Z)) (ZU D) c1)) 8 (by kernel_rfl) ?_;have l:=ae (H.aa br.drew);clear H;generalize M.drew=ZT at l ⊢;have Z8:=ae l.ab.1
      iterate 4
       refine aO 0 (v:=?_) rfl rfl (by kernel_rfl) (λ_ _ _ h=>h) rfl ?_ Z8 ?_;rotate_left
       ·(intro wz s0;go_simp)
        (try with_reducible rfl)
       (try simp only[p_,z_])
      refine ai (i:=4) rfl (by kernel_rfl) λK A=>?_;go_simp;go_at_call 19;refine(ay R _ 8 _ l.rd (by omega) (by omega) (by omega)).P ?_;rintro e ZQ⟨z4,rfl,Kz,KU,ZS,G⟩;have C:=ae (l.ac G ZS);clear G ZS l Z8;have Z8:=ae C.ab.1;refine A _ _ (λ_=>Z8) ?_;clear A K
      (try simp only[p_,z_])
      have KP:IntKind.i64.wrap (z4 - 1)=z4 - 1:=by rw[nL];omega
      iterate 3
       refine bV 5 rfl rfl (by kernel_rfl) λK A=>?_;go_simp;refine A _ _ (λ_=>Z8) ?_;clear A K
       (try simp only[p_,z_])
      obtain⟨d0,d1⟩:=C.G (j:=2) ZL (by omega) rfl;have gl:=C.gb.2.1;have S9:=ae (C.ao (j:=2) (u:=J I (z4 - 1)) (r':=({ r.1 with M:=z4 - 1 },r.2)) ZL (by omega) rfl ((C.row.sub r HM).same _ rfl rfl rfl rfl) (P.M _))
     |have e:s=3:=h
      subst e;go_wp2_with fail;refine aI (λV=>ZW V (T X 0 Z)=Q (Y (Q (T g 0 Z)) (ZU D) c1)/\ZW V (T g (k*6+3) Z)=Q (U r.1.H)) 12 (by kernel_rfl) ?_;have l:=ae (H.aa br.drew);clear H;generalize M.drew=ZT at l ⊢;have Z8:Hid (ZW ZT (T X 0 Z)=Q (Y (Q (T g 0 Z)) (ZU D) c1)/\ZW ZT (T g (k*6+3) Z)=Q (U r.1.H)):=⟨l.ab.1,(l.G (j:=3) ZL (by omega) rfl).1⟩
      have hsz:¬ 9223372036854775807<r.1.H.size+1:=by omega
      have Lf:(r.1.H++⟨#[120]⟩).size<=2000+ZM:=by have e1:(⟨#[120]⟩:F_).size=1:=rfl;rw[PU,e1];omega
      iterate 9
       refine aO 0 (v:=?_) rfl rfl (by kernel_rfl) (λ_ _ _ h=>h) rfl ?_ Z8 ?_;rotate_left
       ·(rintro wz⟨s0,s1⟩;go_simp)
        (try with_reducible rfl)
       (try simp only[p_,z_])
      iterate 3
       refine bV 9 rfl rfl (by kernel_rfl) λK A=>?_;go_simp;refine A _ _ (λ_=>Z8) ?_;clear A K
       (try simp only[p_,z_])
      obtain⟨d0,d1⟩:=l.G (j:=3) ZL (by omega) rfl;have gl:=l.gb.2.1;have S9:=ae (l.ao (j:=3) (u:=U (r.1.H++⟨#[120]⟩)) (r':=({ r.1 with H:=r.1.H++⟨#[120]⟩ },r.2)) ZL (by omega) rfl ((l.row.sub r HM).same _ rfl rfl rfl rfl) (P.H Lf))
     |have e:s=4:=h
      subst e;go_wp2_with fail;refine aI (λV=>ZW V (T X 0 Z)=Q (Y (Q (T g 0 Z)) (ZU D) c1)) 9 (by kernel_rfl) ?_;have l:=ae (H.aa br.drew);clear H;generalize M.drew=ZT at l ⊢;have Z8:=ae l.ab.1
      iterate 4
       refine aO 0 (v:=?_) rfl rfl (by kernel_rfl) (λ_ _ _ h=>h) rfl ?_ Z8 ?_;rotate_left
       ·(intro wz s0;go_simp)
        (try with_reducible rfl)
       (try simp only[p_,z_])
      refine ai (i:=4) rfl (by kernel_rfl) λK A=>?_;go_simp;go_at_call 19;refine(ay R _ 2 _ l.rd (by omega) (by omega) (by omega)).P ?_;rintro e ZQ⟨z4,rfl,Kz,KU,ZS,G⟩;have C:=ae (l.ac G ZS);clear G ZS l Z8;have Z8:=ae C.ab.1;refine A _ _ (λ_=>Z8) ?_;clear A K
      (try simp only[p_,z_])
      have KP:IntKind.i64.wrap (2000+z4)=2000+z4:=by rw[nL];omega
      refine ai (i:=5) rfl (by kernel_rfl) λK A=>?_;go_simp;refine A _ _ (λ_=>Z8) ?_;clear A K
      (try simp only[p_,z_])
      obtain⟨m0,JM⟩:∃m0:Nat,2000+z4=(m0:Int):=⟨(2000+z4).toNat,by omega⟩
      rw[JM];refine ai (i:=6) rfl (by kernel_rfl) λK A=>?_;go_simp;go_at_call 35;refine(eP ⟨#[116]⟩ m0 _ (by show 1*m0<=4000;omega) (by omega)).P ?_;rintro e v6⟨t,rfl,ht,hw⟩;rw[hw];have Kd:t.size<=2000+ZM:=nX ht (by show 1*m0<=2000+ZM;omega);clear ht hw KP;refine A _ _ (λ_=>Z8) ?_;clear A K
      (try simp only[p_,z_])
      iterate 2
       refine bV 7 rfl rfl (by kernel_rfl) λK A=>?_;go_simp;refine A _ _ (λ_=>Z8) ?_;clear A K
       (try simp only[p_,z_])
      obtain⟨d0,d1⟩:=C.G (j:=3) ZL (by omega) rfl;have gl:=C.gb.2.1;have S9:=ae (C.ao (j:=3) (u:=U t) (r':=({ r.1 with H:=t },r.2)) ZL (by omega) rfl ((C.row.sub r HM).same _ rfl rfl rfl rfl) (P.H Kd))
     |have e:s=5:=h
      subst e;obtain⟨⟨ga,ca,ea⟩,-⟩:=ld.i r HM;have EA:=ae ea;clear ea;go_wp2_with fail;refine aI (λV=>ZW V (T X 0 Z)=Q (Y (Q (T g 0 Z)) (ZU D) c1)/\ZW V (T g (k*6+4) Z)=Q (Y (Q (T ga 0 Z)) r.1.h ca)) 13 (by kernel_rfl) ?_;have l:=ae (H.aa br.drew);clear H;generalize M.drew=ZT at l ⊢;have Z8:Hid (ZW ZT (T X 0 Z)=Q (Y (Q (T g 0 Z)) (ZU D) c1)/\ZW ZT (T g (k*6+4) Z)=Q (Y (Q (T ga 0 Z)) r.1.h ca)):=⟨l.ab.1,(l.G (j:=4) ZL (by omega) (by rw[<-EA.i];rfl)).1⟩
      iterate 10
       refine aO 0 (v:=?_) rfl rfl (by kernel_rfl) (λ_ _ _ h=>h) rfl ?_ Z8 ?_;rotate_left
       ·(rintro wz⟨s0,s1⟩;go_simp)
        (try with_reducible rfl)
       (try simp only[p_,z_])
      refine ai (i:=10) rfl (by kernel_rfl) λK A=>?_;go_simp;go_at_call 51;refine(Dq (l.row.sub r HM) EA l.rd (by omega) JS (by omega)).P ?_;rintro e ZQ⟨L4,g4,c4,rfl,Lb,-,LJ,Km,q4,hq4,ZS,G⟩;have C:=ae (l.ac G ZS);have Kw:=l.lt;have I4:Hid (ZY ZQ (z (B w)+2) 102 3 (Y (Q (T g4 0 Z)) (ZU L4) c4) (ZU L4) (bZ (cY L4) (ZU L4))):=by show World.ownsRow _ _ _ _ _ _ _;rw[<-qK];exact aE Lb (by omega)
      have T4:=ae Km;clear G ZS l Z8 Lb Km Kw;have Z8:Hid (ZW ZQ (T X 0 Z)=Q (Y (Q (T g 0 Z)) (ZU D) c1)/\ZW ZQ (T g (k*6+4) Z)=Q (Y (Q (T ga 0 Z)) r.1.h ca)):=⟨C.ab.1,(C.G (j:=4) ZL (by omega) (by rw[<-EA.i];rfl)).1⟩
      refine A _ _ (λ_=>Z8) ?_;clear A K
      (try simp only[p_,z_])
      iterate 2
       refine bV 11 rfl rfl (by kernel_rfl) λK A=>?_;go_simp;refine A _ _ (λ_=>Z8) ?_;clear A K
       (try simp only[p_,z_])
      have d0:=Z8.2;have d1:=(C.G (j:=4) ZL (by omega) rfl).2;have gl:=C.gb.2.1;have S9:=ae (C.ao (j:=4) (u:=Y (Q (T g4 0 Z)) (ZU L4) c4) (r':=({ r.1 with h:=ZU L4,q:=cY L4 },Y (Q (T g4 0 Z)) (ZU L4) c4,r.2.2)) ZL (by omega) rfl ⟨I4,(C.row.sub r HM).az⟩ ⟨P.nm,P.tx,by show (ZU L4)<=200+ZM;omega,iI T4,P.ln,P.lsz⟩)
    all_goals
     refine bV 0 rfl rfl (by kernel_rfl) λK A=>?_;go_simp;refine A _ _ (λh=>absurd rfl h) ?_;clear A K Z8
     (try simp only[p_,z_])
     refine ba (by kernel_rfl) ?_ _;clear d0 d1 gl;go_wp2;go_meet;exact⟨_,_,_,_,by omega,S9⟩
 case rest =>
 clear H;obtain⟨a',c',q',D',LX,S9⟩:=hcut;have bx:=S9.ab.1;have rs:=S9.rs;have r0:ZW wc (T (z (B w)+1) 0 Z)=Q (Y Z 0 0):=by simp[World.cell?,rs]
 have f0:ZX wc (T (z (B w)+1) 0 Z)=ZA:=by simp[World.frozen?,rs]
 have l0:=aj rs;have FN:=ae (S9.fin (by omega) LX);clear rs;go_wp2;exact bp (v:=ZJ #[Y a' (ZU D') c']) (by simp[results,results20,go_sem,r0]) rfl FN.i
