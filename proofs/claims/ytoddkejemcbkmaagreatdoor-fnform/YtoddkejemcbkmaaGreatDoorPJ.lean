import Derived.Test.YtoddkejemcbkmaaGreatDoorPE
import Derived.Test.YtoddkejemcbkmaaGreatDoorQU
set_option maxRecDepth 100000
set_option maxHeartbeats 40000000
open Go renaming Addr.mk->Q,Value.slice->Z,Value.string->U,Value.int->J,Value.bool->ZD,Obj.cells->N,IntKind.i64->I,World->M,TypeId->ZH,World.cell?->A
open Option renaming none->Y,some->T
open Bool renaming false->ZA,true->ZG
namespace Go.Proofs.YtoddkejemcbkmaaGreatDoor.Vp
open Tryz RowKit Ca
variable {w W:M}{n b m c g R:Nat}{t:ZH}
theorem Hc:∃i:TypeInfo,Tryz.prog.info? 93=T i/\i.zero=T (.agg #[U ⟨#[]⟩,ZD ZA,ZD ZA,J I 0])/\i.size=4/\i.bytes=32:=LY fZ
theorem mi{base size:Nat}{e:ZH}{cs:Array Value}(hb:base<=w.heap.size)(c:n<=maxLen)(b:cs.size=n*size):(w.alloc (N cs e)).ownsRow base e size (Z (T (Q w.heap.size 0 Y)) n n) n cs.toList :=
 ⟨by simpa using b,.inr ⟨w.heap.size,n,cs,rfl,hb,n6 w _,n8 _,c,b,by rw[KK];simp[b]⟩⟩
theorem Cb (f:Nat->Link)(h:m<=n):(bo f n).take (m*4)=bo f m:=by
 refine RH λj=>?_;rw[U5];have hn:=iT f n;have hm:=iT f m;by_cases b:j<m*4
 ·have e:j=j / 4*4+j % 4:=by omega
  rw[p7 b,e,jG f (by omega) _ (RJ _ (by omega)),jG f (by omega) _ (RJ _ (by omega))]
 {rw[nD b,MR (by omega)]}
theorem E7{f:Nat->Link}(h:w.ownsRow b 93 4 (Z (T (Q g 0 Y)) n c) n (bo f n))(r:m<=n):w.ownsRow b 93 4 (Z (T (Q g 0 Y)) m c) m (bo f m):=by
 refine⟨iT f m,?_⟩;rcases h.2 with ⟨i,_⟩|⟨g',cap,j,i,hb,l,hc,o,p,q⟩
 {cases i}
 ·cases i
  refine .inr ⟨g,c,j,rfl,hb,l,by omega,o,p,?_⟩;rw[<-Cb f r,<-q,List.take_take,PI (by omega)]
theorem uU (f:Nat->Link)(n:Nat)(y:Link):bo f n++cP y=bo (λi=>if i=n then y else f i) (n+1):=by
 unfold bo;rw[MY,BG,BM];congr 1;{congr 1;refine UL λi hi=>?_;have:=NH.1 hi;rw[nD (by omega)]};{simp}
theorem E9{i f c g:Int}{fz:Nat × Nat}(h:w.heap[b]?=T (N #[J I i,J I f,J I c,J I g] t fz))(k:Nat)(l:k<4):∃z,A w (Q b k Y)=T (J I z):=by
 match k,l with
 |0,_=>exact⟨i,by simp[World.cell?,h]⟩
 |1,_=>exact⟨f,by simp[World.cell?,h]⟩
 |2,_=>exact⟨c,by simp[World.cell?,h]⟩
 |3,_=>exact⟨g,by simp[World.cell?,h]⟩
 |j+4,h5=>exact absurd h5 (by omega)
def ng (W:M)(b:Nat):Nat:=match A W (Q b 5 Y) with
 |some (Z _ n _)=>n
 |_=>0
theorem LBx.len{f i l g j:Value}{a:Option Addr}(h:LBx W b f i l g j (Z a n c)):ng W b=n:=by unfold ng;rw[h.cells.2.2.2.2.2]
theorem qd (ZN:Nat)(hNN:200<=ZN/\ZN<=299)(X:M)(R p x g c n:Nat)(f:Nat->Link)(nm tx:ByteArray)(kd H:Int)(F:Option Addr)(G c4:Nat)(w:M)(hO:Only R X w)(hR:R<X.heap.size)(hb:X.heap.size<=x)(hbw:x<=w.heap.size)(hr:Rd w R p)(hp:p<=50000)(DS:w.ownsRow x 93 4 (Z (T (Q g 0 Y)) n c) n (bo f n))(hn:n<=ZN)(Bk:∀j,j<n->(f j).e.size<=5000):Calls Tryz.prog 78 #[.pointer (T (Q R 0 Y)),.agg #[U nm,J I kd,J I H,U tx,Z F G c4,Z (T (Q g 0 Y)) n c]] w λe w'=>DL ZN X w R x g (U nm) (J I kd) (J I H) (U tx) (Z F G c4) (p+10) e w':=by
 have ZJ:=ae (GY (v0:=U nm) (v1:=J I kd) (v2:=J I H) (v3:=U tx) (v4:=Z F G c4) hO hR hb hbw hr DS Bk);obtain⟨Fd,hi,GS,Fm,DQ⟩:=Hc;clear hO hR hb hbw hr DS Bk;obtain⟨-,-,-,-,-,ZL⟩:=ZJ.bx.cells;have P:=ZJ.bx.lt;by_cases hz:n=0
 ·subst hz;go_enter func78,ntmps78;go_wp2_with fail;generalize World.alloc (World.alloc w _) _=W0 at ZJ ZL P ⊢;clear ZL P;refine(ef R _ _ ZJ.rd (by omega)).mono ?_;rintro e w1 ⟨ln,rfl,Jp,fd,bt⟩;have L1:=ae (ZJ.F bt fd);clear bt fd ZJ;go_wp2_with fail;refine(au R _ 2 _ L1.rd (by omega) (by omega) (by omega)).mono ?_;rintro e O ⟨z,rfl,ph,At,la,ld⟩;have ZR:=ae (L1.F ld la);clear ld la L1;obtain⟨bh,Jq⟩:∃b:Bool,(z=0/\b=ZG)∨(z=1/\b=ZA):=by rcases(show z=0∨z=1 by omega) with h|h<;>simp[h]
  have A3:=(q9 O).alloc ly (N #[U ln,ZD ZA,ZD bh,J I 0] 93);have h2:=ZR.lt;have h3:=ZR.hbw;have O3:(O.alloc (N #[U ln,ZD ZA,ZD bh,J I 0] 93)).ownsRow x 93 4 (Z (T (Q O.heap.size 0 Y)) 1 1) 1 (bo (λ_=>⟨ln,ZA,bh,0⟩) 1):=mi (cs:=#[U ln,ZD ZA,ZD bh,J I 0]) (by omega) (by unfold maxLen;omega) rfl;have o:=ae ((ZR.aa A3).setB (qb _ _) O3 (.inr (by omega)) (λj _=>by show ln.size<=5000;omega));obtain⟨-,-,-,-,-,ZL⟩:=ZR.bx.cells;have bz:=ZR.bx.fz 5;have P:=ZR.bx.lt;rw[World.setCell_alloc_past _ _ _ _ P] at o;clear A3 O3;rcases Jq with ⟨rfl,rfl⟩|⟨rfl,rfl⟩
  all_goals
   go_upto_region 3 with fail;generalize World.alloc (World.setCell O _ _) _=W3 at o ⊢;clear ZL bz P;obtain⟨b0,b1,b2,b3,b4,ZL⟩:=o.bx.cells;obtain⟨r0,r1,r2,r3,r4,r5⟩:=o.rs.cells;obtain⟨z0,z1,z2,z3,z4,z5⟩:=al6 o.rs.fz;have P:=o.bx.lt;have lr:=o.rs.lt;have FN:=ae (o.fin (ZN:=ZN) (ZM:=p+10) (by omega) (by omega) (U nm) (J I kd) (J I H) (U tx) (Z F G c4) (Z (T (Q O.heap.size 0 Y)) 1 1));have FB:=ae (o.rs.six (U nm) (J I kd) (J I H) (U tx) (Z F G c4) (Z (T (Q O.heap.size 0 Y)) 1 1));go_wp2;generalize World.setCell (World.setCell (World.setCell (World.setCell (World.setCell (World.setCell W3 _ _) _ _) _ _) _ _) _ _) _ _=V at FN FB ⊢;obtain⟨x0,x1,x2,x3,x4,x5⟩:=FB.cells;exact bp (v:=.agg #[U nm,J I kd,J I H,U tx,Z F G c4,Z (T (Q O.heap.size 0 Y)) 1 1]) (by simp[results,results78,go_sem,x0,x1,x2,x3,x4,x5]) rfl FN.out
 have nz:¬ ((n:Int)=0):=by omega
 go_enter func78,ntmps78;go_wp2_with fail;generalize World.alloc (World.alloc w _) _=W0 at ZJ ZL P ⊢;refine(au R _ (n:Int) _ ZJ.rd (by omega) (by omega) (by omega)).mono ?_;rintro e w1 ⟨z,rfl,ph,At,fd,bt⟩;obtain⟨k,rfl⟩:=BC ph;have C:k<n:=by omega
 have L1:=ae (ZJ.F bt fd);clear bt fd ZJ ZL P ph At;go_wp2_with fail;refine(au R _ 7 _ L1.rd (by omega) (by omega) (by omega)).mono ?_;rintro e O ⟨s,rfl,hs0,hs1,la,ld⟩;have ZR:=ae (L1.F ld la);clear ld la L1;have hn1:=ZR.nm k C;have SB:Hid (∀V:M,LBx V w.heap.size (U nm) (J I kd) (J I H) (U tx) (Z F G c4) (Z (T (Q g 0 Y)) n c)->A V (Q w.heap.size 5 Y)=T (Z (T (Q g 0 Y)) n c)):=λV h=>h.cells.2.2.2.2.2;go_upto_block 0 with fail;go_cut [] (λwx=>∃(q' ZK ZP W:Nat) (f':Nat->Link),q'<=p+10/\ZP<=ZN+1/\Hid (LStD X w R x g (U nm) (J I kd) (J I H) (U tx) (Z F G c4) wx q' ZK ZP W f'));case rest =>clear ZR SB hn1;obtain⟨q',ZK,ZP,W,f',hq',Jr,l⟩:=hcut;go_upto_region 21 with fail;obtain⟨b0,b1,b2,b3,b4,ZL⟩:=l.bx.cells;obtain⟨r0,r1,r2,r3,r4,r5⟩:=l.rs.cells;obtain⟨z0,z1,z2,z3,z4,z5⟩:=al6 l.rs.fz;have P:=l.bx.lt;have lr:=l.rs.lt;have FN:=ae (l.fin (ZN:=ZN) (ZM:=p+10) (by omega) (by omega) (U nm) (J I kd) (J I H) (U tx) (Z F G c4) (Z (T (Q ZK 0 Y)) ZP W));have FB:=ae (l.rs.six (U nm) (J I kd) (J I H) (U tx) (Z F G c4) (Z (T (Q ZK 0 Y)) ZP W));go_wp2;generalize World.setCell (World.setCell (World.setCell (World.setCell (World.setCell (World.setCell wc _ _) _ _) _ _) _ _) _ _) _ _=V at FN FB ⊢;obtain⟨x0,x1,x2,x3,x4,x5⟩:=FB.cells;exact bp (v:=.agg #[U nm,J I kd,J I H,U tx,Z F G c4,Z (T (Q ZK 0 Y)) ZP W]) (by simp[results,results78,go_sem,x0,x1,x2,x3,x4,x5]) rfl FN.out
 rcases(show(s=0∨s=1∨s=2∨s=3)∨s=4∨s=5∨s=6 by omega) with (rfl|rfl|rfl|rfl)|rfl|rfl|rfl;rotate_left 4
 ·obtain⟨m,rfl⟩:∃m,n=m+1:=⟨n - 1,by omega⟩
  have hcap:=jT ZR.i;obtain⟨-,-,-,-,-,ZL⟩:=ZR.bx.cells;have bz:=ZR.bx.fz 5;have P:=ZR.bx.lt;have o:=ae (ZR.setB (qb _ _) (E7 ZR.i (F3 m)) (.inl rfl) (λj hj=>ZR.nm j (by omega)));have hw:IntKind.i64.wrap (((m+1:Nat):Int) - 1)=(m:Int):=by rw[wA];omega
  go_wp2;go_meet;exact⟨_,_,_,_,_,by omega,by omega,o⟩
 ·go_wp2_with fail;refine aE (λV=>A V (Q w.heap.size 5 Y)=T (Z (T (Q g 0 Y)) n c)) 10 (by kernel_rfl) ?_;have o:=ae (ZR.aa br.drew);clear ZR;generalize O.drew=t at o ⊢;have r:=ae (SB t o.bx);iterate 6
   refine aI 0 (v:=?_) rfl rfl (by kernel_rfl) (λ_ _ _ h=>h) rfl ?_ r ?_;rotate_left
   ·(intro wz s0;go_simp)
    (try with_reducible rfl)
   (try simp only[Act.put,nzL])
  have e0:=(cV (j:=0) o.i C (by omega) rfl).1;have e1:=(cV (j:=1) o.i C (by omega) rfl).1;have e2:=(cV (j:=2) o.i C (by omega) rfl).1;have e3:=(cV (j:=3) o.i C (by omega) rfl).1;rw[NS] at e0;refine ag (i:=6) rfl (by kernel_rfl) λK q=>?_;go_simp;refine q _ _ (λ_=>r) ?_;clear q K
  (try simp only[Act.put,nzL])
  clear e0 e1 e2 e3;refine ag (i:=7) rfl (by kernel_rfl) λK q=>?_;go_simp;have A4:=(q9 t).alloc ly (N #[U (f k).e,ZD (f k).ask,ZD (f k).has,J I (f k).L] 93);have l:=ae (o.aa A4);have HN:Hid (∀j u,(cP (f k))[j]?=T u->(t.alloc (N #[U (f k).e,ZD (f k).ask,ZD (f k).has,J I (f k).L] 93)).cell? (((Q t.heap.size 0 Y):Addr).add j)=T u):=(mi (base:=0) (e:=93) (size:=4) (n:=1) (cs:=#[U (f k).e,ZD (f k).ask,ZD (f k).has,J I (f k).L]) (E4 _) (by unfold maxLen;omega) rfl).cells rfl;have hl3:=o.lt;have hl3':=o.hbw;have hz3:(t.alloc (N #[U (f k).e,ZD (f k).ask,ZD (f k).has,J I (f k).L] 93)).heap.size=t.heap.size+1:=by simp
  clear A4 r;have r:=ae (SB _ l.bx);refine q _ _ (λ_=>r) ?_;clear q K
  (try simp only[Act.put,nzL])
  refine ag (i:=8) rfl (by kernel_rfl) (λK q=>?_);refine step_append_lies _ rfl (.tmp 110) (.tmp 116) 60 rfl x 93 Fd (.agg #[U ⟨#[]⟩,ZD ZA,ZD ZA,J I 0]) 4 32 ON hi GS Fm DQ rfl (by decide) (Z (T (Q g 0 Y)) n c) n (bo f n) (by simp[Act.eval]) l.i (Q t.heap.size 0 Y) 1 1 (cP (f k)) (by simp[Act.eval]) rfl HN.out (by simp[cP,Value.oneCell']) (by omega) (by unfold maxLen;omega) (by omega) (by omega) _ rfl ?_;intro g5 c5 ZQ ZO D dg DE;rw[uU f n (f k)] at ZO;have G5:=ae D;have O5:=ae ZO;have ro:g5=g∨w.heap.size<=g5:=by
   rcases dg with h|h;{exact .inl (by simpa[Value.ownBlock] using h.symm)};{exact .inr (by omega)}
  have BX:Hid (LBx ZQ w.heap.size (U nm) (J I kd) (J I H) (U tx) (Z F G c4) (Z (T (Q g 0 Y)) n c)):=l.bx.ab (D.block _ l.bx.lt (λe=>l.gne.1 (by simpa[Value.ownBlock] using e.symm)));clear ZO D dg DE HN r;have r:=ae (SB ZQ BX);refine q _ _ (λ_=>r) ?_;clear q K
  (try simp only[Act.put,nzL])
  refine ag (i:=9) rfl (by kernel_rfl) λK q=>?_;go_simp;refine q _ _ (λ_=>r) ?_;clear q K
  (try simp only[Act.put,nzL])
  have L6:=ae (l.setB G5 O5 ro (λj hj=>by show(if j=n then f k else f j).e.size<=5000;split;exact hn1;exact l.nm j (by omega)));obtain⟨-,-,-,-,-,ZL⟩:=BX.cells;have bz:=BX.fz 5;have P:=BX.lt;refine ag (i:=10) rfl (by kernel_rfl) λK q=>?_;go_simp;refine q _ _ (λh=>absurd rfl h) ?_;clear q K r
  (try simp only[Act.put,nzL])
  refine aW (by kernel_rfl) ?_ _;clear ZL bz P BX G5 O5 l;go_wp2;go_meet;exact⟨_,_,_,_,_,by omega,by omega,L6⟩
 ·go_wp2_with fail;refine(au R _ 2 _ ZR.rd (by omega) (by omega) (by omega)).mono ?_;rintro e w3 ⟨z,rfl,ph,At,DH,Fk⟩;have o:=ae (ZR.F Fk DH);clear Fk DH ZR hn1 SB C;have hw:IntKind.i64.wrap (200+z)=200+z:=by rw[wA];omega
  go_wp2_with fail;go_loopw [] (λwr=>∃(ZK ZP W:Nat) (f':Nat->Link),ZP<=ZN+1/\Hid (LStD X w R x g (U nm) (J I kd) (J I H) (U tx) (Z F G c4) wr (p+1+1+1) ZK ZP W f')) (λwr=>300 - ng wr w.heap.size);case atStart=>exact⟨g,n,c,f,by omega,o⟩
  case round =>
   obtain⟨ZK,ZP,W,f',Jr,l⟩:=hrel;obtain⟨-,-,-,-,-,ZL⟩:=l.bx.cells;have P:=l.bx.lt;have n9:=l.lt;have sm:=l.hbw;clear o;by_cases DE:(ZP:Int)<200+z
   ·have B:=ae (l.aa ((q9 wr).alloc ly (N #[U ⟨#[97]⟩,ZD ZA,ZD ZG,J I 0] 93)));have HN:Hid (∀j u,(cP ⟨⟨#[97]⟩,ZA,ZG,0⟩)[j]?=T u->(wr.alloc (N #[U ⟨#[97]⟩,ZD ZA,ZD ZG,J I 0] 93)).cell? (((Q wr.heap.size 0 Y):Addr).add j)=T u):=(mi (base:=0) (e:=93) (size:=4) (n:=1) (cs:=#[U ⟨#[97]⟩,ZD ZA,ZD ZG,J I 0]) (E4 _) (by unfold maxLen;omega) rfl).cells rfl;have hz5:(wr.alloc (N #[U ⟨#[97]⟩,ZD ZA,ZD ZG,J I 0] 93)).heap.size=wr.heap.size+1:=by simp
    go_wp2_with (at_builtin;refine wpList_append_lies _ rfl (.tmp 36) (.tmp 38) 60 rfl x 93 Fd (.agg #[U ⟨#[]⟩,ZD ZA,ZD ZA,J I 0]) 4 32 ON hi GS Fm DQ rfl (by decide) (Z (T (Q ZK 0 Y)) ZP W) ZP (bo f' ZP) (by simp[Act.eval]) B.i (Q wr.heap.size 0 Y) 1 1 (cP ⟨⟨#[97]⟩,ZA,ZG,0⟩) (by simp[Act.eval]) rfl HN.out (by simp[cP,Value.oneCell']) (by omega) (by unfold maxLen;omega) (by omega) (by omega) _ rfl ?_;intro g5 c5 ZQ ZO D dg Id;have BX:Hid (LBx ZQ w.heap.size (U nm) (J I kd) (J I H) (U tx) (Z F G c4) (Z (T (Q ZK 0 Y)) ZP W)):=B.bx.ab (D.block _ B.bx.lt (λe=>B.gne.1 (by simpa[Value.ownBlock] using e.symm)));rw[uU f' ZP] at ZO;have ro:g5=ZK∨w.heap.size<=g5:=(by rcases dg with h|h;exact .inl (by simpa[Value.ownBlock] using h.symm);exact .inr (by omega));have L6:=ae (B.setB D ZO ro (λj hj=>(by show(if j=ZP then (⟨⟨#[97]⟩,ZA,ZG,0⟩:Link) else f' j).e.size<=5000;split;exact(by decide);exact B.nm j (by omega))));obtain⟨-,-,-,-,-,q5⟩:=BX.cells;have qz:=BX.fz 5;have ql:=BX.lt;clear ZO D dg Id ro);refine⟨⟨g5,ZP+1,c5,_,by omega,L6⟩,?_⟩;have e1:=l.bx.len;have e2:=L6.bx.len;show 300 - ng _ _<300 - ng _ _;rw[e1,e2];omega
   {skip;go_wp2;go_meet;exact⟨_,_,_,_,_,by omega,by omega,l⟩}
 focus
  go_wp2_with fail;refine aE (λV=>A V (Q w.heap.size 5 Y)=T (Z (T (Q g 0 Y)) n c)) 7 (by kernel_rfl) ?_;have o:=ae (ZR.aa br.drew);clear ZR;generalize O.drew=t at o ⊢;have r:=ae (SB t o.bx)
  iterate 4
   refine aI 0 (v:=?_) rfl rfl (by kernel_rfl) (λ_ _ _ h=>h) rfl ?_ r ?_;rotate_left
   ·(intro wz s0;go_simp)
    (try with_reducible rfl)
   (try simp only[Act.put,nzL])
  refine ag (i:=4) rfl (by kernel_rfl) λK q=>?_;go_simp;go_at_call 81;refine(ef R _ _ o.rd (by omega)).mono ?_;rintro e E ⟨ln,rfl,Jp,S,L⟩;have l:=ae (o.F L S);clear L S o r;have r:=ae (SB E l.bx);refine q _ _ (λ_=>r) ?_;clear q K
  (try simp only[Act.put,nzL])
  iterate 2
   refine cB 5 rfl rfl (by kernel_rfl) λK q=>?_;go_simp;refine q _ _ (λ_=>r) ?_;clear q K
   (try simp only[Act.put,nzL])
  obtain⟨ZI,d1⟩:=cV (j:=0) l.i C (by omega) rfl;rw[NS] at ZI d1;have gl:=l.gne.2.2.2;have B:Hid (LStD X w R x g (U nm) (J I kd) (J I H) (U tx) (Z F G c4) (E.setCell (Q g (k*4) Y) (U ln)) _ g n c _):=l.setL (j:=0) (y:={ f k with e:=ln }) (u:=U ln) C (by omega) rfl (by show ln.size<=5000;omega)
 rotate_left;have M1:=True.intro;iterate 2
  focus
   go_wp2_with fail;first|(guard_hyp M1;refine aE (λV=>A V (Q w.heap.size 5 Y)=T (Z (T (Q g 0 Y)) n c)/\A V (Q g (k*4+1) Y)=T (ZD (f k).ask)) 12 (by kernel_rfl) ?_)|refine aE (λV=>A V (Q w.heap.size 5 Y)=T (Z (T (Q g 0 Y)) n c)/\A V (Q g (k*4+2) Y)=T (ZD (f k).has)) 12 (by kernel_rfl) ?_
   have l:=ae (ZR.aa br.drew);clear ZR;generalize O.drew=t at l ⊢;first|(guard_hyp M1;obtain⟨ZI,d1⟩:=cV (j:=1) l.i C (by omega) rfl)|obtain⟨ZI,d1⟩:=cV (j:=2) l.i C (by omega) rfl
   first|(guard_hyp M1;have r:Hid (A t (Q w.heap.size 5 Y)=T (Z (T (Q g 0 Y)) n c)/\A t (Q g (k*4+1) Y)=T (ZD (f k).ask)):=⟨SB t l.bx,ZI⟩)|have r:Hid (A t (Q w.heap.size 5 Y)=T (Z (T (Q g 0 Y)) n c)/\A t (Q g (k*4+2) Y)=T (ZD (f k).has)):=⟨SB t l.bx,ZI⟩
   clear ZI
   iterate 10
    refine aI 0 (v:=?_) rfl rfl (by kernel_rfl) (λ_ _ _ h=>h) rfl ?_ r ?_;rotate_left
    ·(rintro wz ⟨s0,s1⟩;go_simp)
     (try with_reducible rfl)
    (try simp only[Act.put,nzL])
   iterate 2
    refine cB 10 rfl rfl (by kernel_rfl) λK q=>?_;go_simp;refine q _ _ (λ_=>r) ?_;clear q K
    (try simp only[Act.put,nzL])
   have ZI:=r.2;have gl:=l.gne.2.2.2;first|(guard_hyp M1;have B:Hid (LStD X w R x g (U nm) (J I kd) (J I H) (U tx) (Z F G c4) (t.setCell (Q g (k*4+1) Y) (ZD (!(f k).ask))) _ g n c _):=l.setL (j:=1) (y:={ f k with ask:=!(f k).ask }) (u:=ZD (!(f k).ask)) C (by omega) rfl hn1)|have B:Hid (LStD X w R x g (U nm) (J I kd) (J I H) (U tx) (Z F G c4) (t.setCell (Q g (k*4+2) Y) (ZD (!(f k).has))) _ g n c _):=l.setL (j:=2) (y:={ f k with has:=!(f k).has }) (u:=ZD (!(f k).has)) C (by omega) rfl hn1
  rotate_left
 focus
  go_wp2_with fail;refine aE (λV=>A V (Q w.heap.size 5 Y)=T (Z (T (Q g 0 Y)) n c)/\A V (Q g (k*4+3) Y)=T (J I (f k).L)) 17 (by kernel_rfl) ?_;have o:=ae (ZR.aa br.drew);clear ZR;generalize O.drew=t at o ⊢;have r:Hid (A t (Q w.heap.size 5 Y)=T (Z (T (Q g 0 Y)) n c)/\A t (Q g (k*4+3) Y)=T (J I (f k).L)):=⟨SB t o.bx,(cV (j:=3) o.i C (by omega) rfl).1⟩
  iterate 10
   refine aI 0 (v:=?_) rfl rfl (by kernel_rfl) (λ_ _ _ h=>h) rfl ?_ r ?_;rotate_left
   ·(rintro wz ⟨s0,s1⟩;go_simp)
    (try with_reducible rfl)
   (try simp only[Act.put,nzL])
  refine aI 11 (v:=?_) rfl rfl (by kernel_rfl) (λ_ _ _ h=>h) rfl ?_ r ?_;rotate_left
  ·(rintro wz ⟨s0,s1⟩;go_simp)
   (try with_reducible rfl)
  (try simp only[Act.put,nzL])
  generalize IntKind.i64.wrap ((f k).L+1)=ax;refine ue (i:=10) (j:=12) rfl rfl (by kernel_rfl) (λK q=>?_) λK q=>?_
  focus
   go_simp;have A4:=(q9 t).alloc ly (N #[J I (-1),J I 0,J I ax,J I 400] 3);have HL:Hid ((t.alloc (N #[J I (-1),J I 0,J I ax,J I 400] 3)).heap[t.heap.size]?=T (N #[J I (-1),J I 0,J I ax,J I 400] 3 (0,0))):=n6 t _;have l:=ae (o.aa A4);have n9:=o.lt;have sm:=o.hbw;have th:=o.hR;have ur:=o.hb;have qr:t.heap.size≠R:=by omega
   clear A4 r n9 sm th ur;generalize World.alloc t _=E at l HL ⊢;generalize t.heap.size=Fn at HL qr ⊢;have r:Hid (A E (Q w.heap.size 5 Y)=T (Z (T (Q g 0 Y)) n c)/\A E (Q g (k*4+3) Y)=T (J I (f k).L)):=⟨SB E l.bx,(cV (j:=3) l.i C (by omega) rfl).1⟩
   refine q _ _ (λ_=>r) ?_;clear q K
   (try simp only[Act.put,nzL])
   refine ag (i:=12) rfl (by kernel_rfl) λK q=>?_;go_simp;go_at_call 20;refine(au R _ 4 _ l.rd (by omega) (by omega) (by omega)).mono ?_;rintro e ZQ ⟨z4,rfl,mv,Hx,S,L⟩;obtain⟨m,rfl⟩:=BC mv;have hm:m<4:=by omega
   have B:=ae (l.F L S);have HL:=ae ((L.block Fn (ah HL) qr).trans HL);clear L S l r;have r:Hid (A ZQ (Q w.heap.size 5 Y)=T (Z (T (Q g 0 Y)) n c)/\A ZQ (Q g (k*4+3) Y)=T (J I (f k).L)):=⟨SB ZQ B.bx,(cV (j:=3) B.i C (by omega) rfl).1⟩
   refine q _ _ (λ_=>r) ?_;clear q K
   (try simp only[Act.put,nzL])
  rotate_left
  focus
   go_simp;go_at_call 20;refine(au R _ 4 _ o.rd (by omega) (by omega) (by omega)).mono ?_;rintro e E ⟨z4,rfl,mv,Hx,S,L⟩;obtain⟨m,rfl⟩:=BC mv;have hm:m<4:=by omega
   have l:=ae (o.F L S);clear L S o r;have r:Hid (A E (Q w.heap.size 5 Y)=T (Z (T (Q g 0 Y)) n c)/\A E (Q g (k*4+3) Y)=T (J I (f k).L)):=⟨SB E l.bx,(cV (j:=3) l.i C (by omega) rfl).1⟩
   refine q _ _ (λ_=>r) ?_;clear q K
   (try simp only[Act.put,nzL])
   refine ag (i:=10) rfl (by kernel_rfl) λK q=>?_;go_simp;have A4:=(q9 E).alloc ly (N #[J I (-1),J I 0,J I ax,J I 400] 3);have HL:Hid ((E.alloc (N #[J I (-1),J I 0,J I ax,J I 400] 3)).heap[E.heap.size]?=T (N #[J I (-1),J I 0,J I ax,J I 400] 3 (0,0))):=n6 E _;have B:=ae (l.aa A4);have n9:=l.lt;have sm:=l.hbw;have th:=l.hR;have ur:=l.hb;have qr:E.heap.size≠R:=by omega
   clear A4 r n9 sm th ur;generalize World.alloc E _=ZQ at B HL ⊢;generalize E.heap.size=Fn at HL qr ⊢;have r:Hid (A ZQ (Q w.heap.size 5 Y)=T (Z (T (Q g 0 Y)) n c)/\A ZQ (Q g (k*4+3) Y)=T (J I (f k).L)):=⟨SB ZQ B.bx,(cV (j:=3) B.i C (by omega) rfl).1⟩
   refine q _ _ (λ_=>r) ?_;clear q K
   (try simp only[Act.put,nzL])
  all_goals
   have l:=B;clear B;obtain⟨zz,hzz⟩:=E9 HL m hm
   iterate 4
    refine cB 13 rfl rfl (by kernel_rfl) λK q=>?_;go_simp;refine q _ _ (λ_=>r) ?_;clear q K
    (try simp only[Act.put,nzL])
   have ZI:=r.2;have d1:=(cV (j:=3) l.i C (by omega) rfl).2;have gl:=l.gne.2.2.2;have B:Hid (LStD X w R x g (U nm) (J I kd) (J I H) (U tx) (Z F G c4) (ZQ.setCell (Q g (k*4+3) Y) (J I zz)) _ g n c _):=l.setL (j:=3) (y:={ f k with L:=zz }) (u:=J I zz) C (by omega) rfl hn1
 all_goals
  refine cB 0 rfl rfl (by kernel_rfl) λK q=>?_;go_simp;refine q _ _ (λh=>absurd rfl h) ?_;clear q K r
  (try simp only[Act.put,nzL])
  refine aW (by kernel_rfl) ?_ _;clear ZI d1 gl l;go_wp2;go_meet;exact⟨_,_,_,_,_,by omega,by omega,B⟩
abbrev DC (V:M)(g q:Nat)(d:Deed)(h c f b:Nat):Prop:=A V (Q g q Y)=T (U d.e)/\A V (Q g (q+1) Y)=T (J I d.E)/\A V (Q g (q+2) Y)=T (J I d.B)/\A V (Q g (q+3) Y)=T (U d.h)/\A V (Q g (q+4) Y)=T (Z (T (Q h 0 Y)) d.f c)/\A V (Q g (q+5) Y)=T (Z (T (Q f 0 Y)) d.b b)
theorem Fa{c i g f:ByteArray}{fz:Nat × Nat}(h:w.heap[b]?=T (N #[U c,U i,U g,U f] t fz))(m:c.size<=5000)(h1:i.size<=5000)(h2:g.size<=5000)(h3:f.size<=5000)(k:Nat)(l:k<4):∃s:ByteArray,s.size<=5000/\A w (Q b k Y)=T (U s):=by
 match k,l with
 |0,_=>exact⟨c,m,by simp[World.cell?,h]⟩
 |1,_=>exact⟨i,h1,by simp[World.cell?,h]⟩
 |2,_=>exact⟨g,h2,by simp[World.cell?,h]⟩
 |3,_=>exact⟨f,h3,by simp[World.cell?,h]⟩
 |j+4,h5=>exact absurd h5 (by omega)
theorem DP.up{q lo:Nat}{e:Ending}{w':M}(h:DP w R q lo n e w')(hn:n<=m):DP w R q lo m e w':=by obtain⟨L,g,c,h1,h2,h3,h4,b⟩:=h;exact⟨L,g,c,h1,h2,h3,p9 h4 hn,b⟩
theorem Cc{K:Nat}{p f:Nat}{r:DR}(h:DSub W g r)(m:r.2.1=Z (T (Q f 0 Y)) r.1.f c)(hR:Rd W R p)(i:p<=20000)(l:FitK K r.1)(hK:K<=80):Calls Tryz.prog 77 #[.pointer (T (Q R 0 Y)),.agg #[Z (T (Q f 0 Y)) r.1.f c]] W λe s=>DP W R (p+1000) 0 (200+K+1) e s:=by
 by_cases j:r.1.f=0;{rw[j];exact(wB R p f c W hR i).mono λ_ _ h=>h.up (by omega)}
 ·obtain⟨a,cap,e,o⟩:=h.ins;rw[m] at e;obtain⟨rfl,-,-⟩:=QY e;rcases o with h1|⟨b,off,n,q⟩
  {exact absurd h1 j}
  ·cases n
   exact uE (200+K) ⟨by omega,by omega⟩ R p f c r.1.f r.1.G W hR i q ⟨by omega,l.an⟩ l.asz
theorem Cd (Jr:FH)(K0 ZJ:Nat)(hK0:K0+1<=ZJ)(hKK:ZJ<=50)(R p:Nat)(a:Option Addr)(n cap:Nat)(f:Nat->Deed)(w:M)(hf:SlDeed w a n f)(JS:∀i,i<n->FitK K0 (f i))(hn:n<=450+K0)(hR:Rd w R p)(hp:p<=19000):Calls Tryz.prog 41 #[.pointer (T (Q R 0 Y)),.agg #[Z a n cap]] w λe w'=>DAK ZJ w R (p+1100) e w':=by
 have Lc:=ae Jr;clear Jr;have HF:=ae hf;have JF:=ae JS;have HR:=ae hR;have JQ:=hR.lt;clear hf JS hR;have A0:=ae (((q9 w).alloc ly (N #[Z a n cap] 25)).alloc (by simp) (N #[Z Y 0 0] 25));have JX:Hid (((w.alloc (N #[Z a n cap] 25)).alloc (N #[Z Y 0 0] 25)).heap[w.heap.size+1]?=T (N #[Z Y 0 0] 25 (0,0))):=by have h:=n6 (w.alloc (N #[Z a n cap] 25)) (N #[Z Y 0 0] 25);rw[show(w.alloc (N #[Z a n cap] 25)).heap.size=w.heap.size+1 by simp] at h;exact h
 have aq:((w.alloc (N #[Z a n cap] 25)).alloc (N #[Z Y 0 0] 25)).heap.size=w.heap.size+2:=by simp
 go_enter func41,ntmps41;go_wp2_with fail;generalize World.alloc (World.alloc w _) _=W0 at A0 JX aq ⊢;refine(BH a n cap f _ (by omega) (HF.aa A0 ly) (λi hi=>((JF i hi).d (by omega)).fits)).mono ?_;rintro e w1 ⟨a1,c1,D,rfl,hD,GS,JH,DQ⟩;have ld:=ae JH;have J6:=ae hD.up;clear JH;have hl:D.length=n:=by have:=AP List.length GS;simpa using this
 have Bk:Hid (∀r∈D,FitK K0 r.1):=λr hr=>by have hm:r.1∈D.map (·.1):=PC.2 ⟨r,hr,rfl⟩;rw[GS] at hm;obtain⟨i,hi,e⟩:=PC.1 hm;rw[<-e];exact JF i (NH.1 hi)
 have Kl:=DQ.size;have B2:=(q9 w1).alloc ly (N #[Z a1 D.length c1] 25);have S1:Hid (SpS ZJ w R w1.heap.size (w1.alloc (N #[Z a1 D.length c1] 25)) p a1 c1 D):=by have O1:Only R w w1:=(Only.u A0).trans (Only.u (DQ.mono (by omega)));exact⟨((HR.aa A0 ly).aa DQ (by omega)).aa B2 ly,O1.trans (Only.u B2),(B2.block _ (by omega)).trans ((DQ.block _ (by omega)).trans JX),n6 w1 _,((hD.rw.aa B2 ly).mono (by omega)),λr hr=>(Bk r hr).up (by omega),JQ,by omega,by omega⟩
 have hX:w.heap.size+2<=w1.heap.size:=by omega
 have hD9:D.length<=450+K0:=by omega
 clear hD DQ B2 Kl aq A0 JX HF JF HR GS hl;go_upto_region 2 with fail;generalize World.alloc w1 _=W1 at S1 ⊢;generalize w1.heap.size=X at S1 hX ⊢;have bx:=S1.H.1;by_cases hz:D.length=0
 ·obtain rfl:D=[]:=NL.1 hz;rw[nX] at bx;clear hz;go_wp2_with fail;refine(au R _ 2 _ S1.rd (by omega) (by omega) (by omega)).mono ?_;rintro e w2 ⟨x,rfl,x0,x1,DS,sm⟩;have F:=ae (S1.F sm DS);clear sm DS S1 bx;go_wp2_with fail;refine(au R _ 3 _ F.rd (by omega) (by omega) (by omega)).mono ?_;rintro e ZQ ⟨y,rfl,y0,y1,Fd,Fk⟩;have l:=ae (F.F Fk Fd);clear Fk Fd F;obtain⟨m,hm⟩:∃m:Nat,400*x+y=(m:Int):=⟨(400*x+y).toNat,by omega⟩
  have KO:IntKind.i64.wrap (400*x)=400*x:=by rw[wA];omega
  have KH:m<=450:=by omega
  have hw2:IntKind.i64.wrap (m:Int)=(m:Int):=by rw[wA];omega
  have hmk:=λw=>Hn m (by omega) w;have rs:=l.rs;have r0:A ZQ (Q (w.heap.size+1) 0 Y)=T (Z Y 0 0):=by simp[World.cell?,rs]
  have f0:ZQ.frozen? (Q (w.heap.size+1) 0 Y)=ZA:=by simp[World.frozen?,rs]
  have l0:=ah rs;have FN:=ae (BK (m:=m) (ZM:=p+1100) l KH (by omega));clear rs;go_wp2;exact bp (v:=.agg #[Z (T (Q ZQ.heap.size 0 Y)) m m]) (by simp[results,results41,go_sem,r0,l0]) rfl FN.out
 obtain⟨g,KJ,e⟩:=bV S1.row.i (by omega);obtain⟨rfl,-,-⟩:=QY e;clear e KJ;have nz:¬ ((D.length:Int)=0):=by omega
 go_wp2_with fail;refine(au R _ (D.length:Int) _ S1.rd (by omega) (by omega) (by omega)).mono ?_;rintro e w2 ⟨z,rfl,aq,n9,DS,sm⟩;obtain⟨k,rfl⟩:=BC aq;have hk:k<D.length:=by omega
 have S0:=ae (S1.F sm DS);clear sm DS S1 aq n9 bx;obtain⟨r,hr,hm⟩:=cX hk;have ZP:=ae hr;have HM:=ae hm;clear hr hm;go_wp2_with fail;refine(au R _ 13 _ S0.rd (by omega) (by omega) (by omega)).mono ?_;rintro e ZQ ⟨s,rfl,hs0,Kl,Fd,Fk⟩;have F:=ae (S0.F Fk Fd);clear Fk Fd S0;have Jy:=Bk r HM;have ZL:=Jy.up (show K0<=ZJ by omega);have htx:=Jy.tx;have KE:=Jy.ln;go_upto_block 0 with fail;go_cut [8,9,10,11,12] (λ_ _ _ _ _ wx=>∃(a':Option Addr) (c' q':Nat) (D':List DR),q'<=p+1100/\Hid (SpS ZJ w R X wx q' a' c' D'));case first =>
  rcases(show(s=0∨s=1∨s=2∨s=3∨s=4∨s=5)∨(s=6∨s=7∨s=8)∨s=9∨s=10∨s=11∨s=12 by omega) with (h|h|h|h|h|h)|h6|rfl|rfl|rfl|rfl;rotate_left 6
  ·as_aux_lemma =>
    obtain⟨⟨ga,ca,ea⟩,ZN,cl,el⟩:=ld.out r HM;have EA:=ae ea;have EL:=ae el;clear ea el;rcases h6 with rfl|rfl|rfl;iterate 3
     ·go_wp2_with fail
      refine aE (λV=>A V (Q X 0 Y)=T (Z (T (Q g 0 Y)) D.length c1)/\DC V g (k*6) r.1 ga ca ZN cl) 11 (by kernel_rfl) ?_;have l:=ae (F.aa br.drew);clear F;generalize ZQ.drew=E at l ⊢;have B:Hid (A E (Q X 0 Y)=T (Z (T (Q g 0 Y)) D.length c1)/\DC E g (k*6) r.1 ga ca ZN cl):=⟨l.H.1,by have h:=(l.L (j:=0) ZP (by omega) rfl).1;rwa[NS] at h,(l.L (j:=1) ZP (by omega) rfl).1,(l.L (j:=2) ZP (by omega) rfl).1,(l.L (j:=3) ZP (by omega) rfl).1,(l.L (j:=4) ZP (by omega) (by rw[<-EA.out];rfl)).1,(l.L (j:=5) ZP (by omega) (by rw[<-EL.out];rfl)).1⟩
      iterate 9
       refine aI 0 (v:=?_) rfl rfl (by kernel_rfl) (λ_ _ _ h=>h) rfl ?_ B ?_;rotate_left
       ·(rintro wz ⟨s0,s1,s2,s3,s4,s5,s6⟩;go_simp)
        (try with_reducible rfl)
       (try simp only[Act.put,nzL])
      refine ag (i:=9) rfl (by kernel_rfl) λK ZR=>?_;go_simp;go_at_call 78;refine(qd (200+K0) ⟨by omega,by omega⟩ w R _ (w.heap.size+2) ZN cl r.1.b r.1.m r.1.e r.1.h r.1.E r.1.B (T (Q ga 0 Y)) r.1.f ca _ l.o JQ (by omega) (by have:=l.lt;omega) l.rd (by omega) (by rw[<-EL.out];exact(l.row.sub r HM).V) KE ZL.lsz).mono ?_;rintro e P ⟨g5,n5,c5,f5,rfl,JO,JK,Kx,⟨q5,hq5,Kg⟩,Ku,fd⟩;obtain⟨kX,kg,J4⟩:=l.kept HM EL fd;have ZI:Hid (SpS ZJ w R X (jj P g k ({ r.1 with b:=n5,m:=f5 },Z (T (Q ga 0 Y)) r.1.f ca,Z (T (Q g5 0 Y)) n5 c5)) q5 (T (Q g 0 Y)) c1 _):=l.ad J6 ZP HM EL Kg Ku fd _ ⟨l.actK HM EA EL fd,JO⟩ ⟨ZL.nm,ZL.tx,ZL.an,ZL.asz,by show n5<=200+ZJ;omega,Kx⟩;have F4:Hid (∀j,j<6->P.frozen? (Q g (k*6+j) Y)=ZA):=λj hj=>(JN (a:=(Q g (k*6+j) Y)) kg).trans (l.L (j:=j) ZP hj (gq (show j<(ddV r).length from hj))).2;have At:Hid (A P (Q X 0 Y)=T (Z (T (Q g 0 Y)) D.length c1)/\DC P g (k*6) r.1 ga ca ZN cl):=⟨(cq (a:=(Q X 0 Y)) kX).trans B.1,(cq (a:=(Q g (k*6) Y)) kg).trans B.2.1,(cq (a:=(Q g (k*6+1) Y)) kg).trans B.2.2.1,(cq (a:=(Q g (k*6+2) Y)) kg).trans B.2.2.2.1,(cq (a:=(Q g (k*6+3) Y)) kg).trans B.2.2.2.2.1,(cq (a:=(Q g (k*6+4) Y)) kg).trans B.2.2.2.2.2.1,(cq (a:=(Q g (k*6+5) Y)) kg).trans B.2.2.2.2.2.2⟩
      clear Kg Ku fd JO Kx kX kg B l;have B:=At;clear At;refine ZR _ _ (λ_=>B) ?_;clear ZR K
      (try simp only[Act.put,nzL])
      refine ag (i:=10) rfl (by kernel_rfl) λK ZR=>?_;go_simp;refine ZR _ _ (λ_=>B) ?_;clear ZR K
      (try simp only[Act.put,nzL])
      obtain⟨-,d0,d1,d2,d3,d4,d5⟩:=B.out;have y0:=F4.out 0 (by omega);have y1:=F4.out 1 (by omega);have y2:=F4.out 2 (by omega);have y3:=F4.out 3 (by omega);have y4:=F4.out 4 (by omega);have y5:=F4.out 5 (by omega);rw[NS] at y0;refine ag (i:=11) rfl (by kernel_rfl) λK ZR=>?_;go_simp;refine ZR _ _ (λh=>absurd rfl h) ?_;clear ZR K B
      (try simp only[Act.put,nzL])
      refine aW (by kernel_rfl) ?_ _;clear d0 d1 d2 d3 d4 d5 y0 y1 y2 y3 y4 y5;go_wp2;go_meet;exact⟨_,_,_,_,by omega,ZI⟩
  ·skip;by_cases Lp:(0:Int)<(k:Int)
   ·obtain⟨m,rfl⟩:∃m,k=m+1:=⟨k - 1,by omega⟩
    have h1l:(1:Int)<(D.length:Int):=by omega
    obtain⟨r1,Km,Jq⟩:=cX (R:=D) (i:=m) (by omega);have la:=ae Km;have JI:=ae Jq;clear Km Jq;obtain⟨⟨ga,ca,ea⟩,ZN,cl,el⟩:=ld.out r HM;obtain⟨⟨gb,cb,eb⟩,gm,cm,em⟩:=ld.out r1 JI;have EA:=ae ea;have EL:=ae el;have EB:=ae eb;have EM:=ae em;clear ea el eb em;have KM:=((Bk r1 JI).up (show K0<=ZJ by omega))
    have bx:=F.H.1;have C2:Hid (DC ZQ g ((m+1)*6) r.1 ga ca ZN cl):=⟨by have h:=(F.L (j:=0) ZP (by omega) rfl).1;rwa[NS] at h,(F.L (j:=1) ZP (by omega) rfl).1,(F.L (j:=2) ZP (by omega) rfl).1,(F.L (j:=3) ZP (by omega) rfl).1,(F.L (j:=4) ZP (by omega) (by rw[<-EA.out];rfl)).1,(F.L (j:=5) ZP (by omega) (by rw[<-EL.out];rfl)).1⟩
    obtain⟨e0,e1,e2,e3,e4,e5⟩:=C2.out;have AB:=ae ((q9 ZQ).alloc ly (N #[U r.1.e,J I r.1.E,J I r.1.B,U r.1.h,Z (T (Q ga 0 Y)) r.1.f ca,Z (T (Q ZN 0 Y)) r.1.b cl] 62));have YB:=ae (n6 ZQ (N #[U r.1.e,J I r.1.E,J I r.1.B,U r.1.h,Z (T (Q ga 0 Y)) r.1.f ca,Z (T (Q ZN 0 Y)) r.1.b cl] 62));have l:=ae (F.aa AB);have hwm:IntKind.i64.wrap (((m+1:Nat):Int) - 1)=(m:Int):=by rw[wA];omega
    have hwm2:IntKind.i64.wrap (m:Int)=(m:Int):=by rw[wA];omega
    have hml:m<D.length:=by omega
    have KU:(m:Int)+1<(D.length:Int):=by omega
    have hk2:(0:Int)<=(m:Int)+1:=by omega
    have Lu:((m:Int)+1).toNat=m+1:=by omega
    go_upto_region 41 with fail;generalize World.alloc ZQ _=v2 at l YB ⊢;have Kc:ZQ.heap.size≠g:=by have:=F.gb.2.1;omega
    generalize ZQ.heap.size=yb at YB Kc ⊢;clear bx e0 e1 e2 e3 e4 e5 C2 AB F;refine aE (λV=>A V (Q X 0 Y)=T (Z (T (Q g 0 Y)) D.length c1)/\DC V g (m*6) r1.1 gb cb gm cm) 10 (by kernel_rfl) ?_;have C:=ae (l.aa br.drew);have JR:Hid (v2.drew.heap[yb]?=T (N #[U r.1.e,J I r.1.E,J I r.1.B,U r.1.h,Z (T (Q ga 0 Y)) r.1.f ca,Z (T (Q ZN 0 Y)) r.1.b cl] 62 (0,0))):=YB.out;clear l YB;generalize v2.drew=E at C JR ⊢;have B:Hid (A E (Q X 0 Y)=T (Z (T (Q g 0 Y)) D.length c1)/\DC E g (m*6) r1.1 gb cb gm cm):=⟨C.H.1,by have h:=(C.L (j:=0) la (by omega) rfl).1;rwa[NS] at h,(C.L (j:=1) la (by omega) rfl).1,(C.L (j:=2) la (by omega) rfl).1,(C.L (j:=3) la (by omega) rfl).1,(C.L (j:=4) la (by omega) (by rw[<-EB.out];rfl)).1,(C.L (j:=5) la (by omega) (by rw[<-EM.out];rfl)).1⟩
    iterate 9
     refine aI 0 (v:=?_) rfl rfl (by kernel_rfl) (λ_ _ _ h=>h) rfl ?_ B ?_;rotate_left
     ·(rintro wz ⟨s0,s1,s2,s3,s4,s5,s6⟩;go_simp)
      (try with_reducible rfl)
     (try simp only[Act.put,nzL])
    refine ag (i:=9) rfl (by kernel_rfl) λK ZR=>?_;go_simp;refine ZR _ _ (λ_=>B) ?_;clear ZR K
    (try simp only[Act.put,nzL])
    have F4:Hid (∀j,j<6->E.frozen? ⟨g,(m+1)*6+j,Y⟩=ZA/\∃u,E.cell? ⟨g,(m+1)*6+j,Y⟩=T u):=λj hj=>by have h:=C.L (j:=j) ZP hj (gq (show j<(ddV r).length from hj));exact⟨h.2,_,h.1⟩
    obtain⟨y0,u0,d0⟩:=F4.out 0 (by omega);obtain⟨y1,u1,d1⟩:=F4.out 1 (by omega);obtain⟨y2,u2,d2⟩:=F4.out 2 (by omega);obtain⟨y3,u3,d3⟩:=F4.out 3 (by omega);obtain⟨y4,u4,d4⟩:=F4.out 4 (by omega);obtain⟨y5,u5,d5⟩:=F4.out 5 (by omega);rw[NS] at y0 d0;have J4:=C.gb.2.1;have ZI:=ae (C.six ZP (r1.1,Z (T (Q gb 0 Y)) r1.1.f cb,Z (T (Q gm 0 Y)) r1.1.b cm) ((C.row.sub r1 JI).aq EB EM) KM);have JU:=ae ((fq E g (m+1) yb (r1.1,Z (T (Q gb 0 Y)) r1.1.f cb,Z (T (Q gm 0 Y)) r1.1.b cm) Kc).trans JR);have T5:Hid (DSub (jj E g (m+1) (r1.1,Z (T (Q gb 0 Y)) r1.1.f cb,Z (T (Q gm 0 Y)) r1.1.b cm)) (w.heap.size+2) (r.1,Z (T (Q ga 0 Y)) r.1.f ca,Z (T (Q ZN 0 Y)) r.1.b cl)):=by obtain⟨cs,z,hg⟩:=C.gb.2.2.2;exact((C.row.sub r HM).aq EA EL).six hg
    unfold jj at ZI JU T5;refine ag (i:=10) rfl (by kernel_rfl) λK ZR=>?_;go_simp;refine ZR _ _ (λh=>absurd rfl h) ?_;clear ZR K B
    (try simp only[Act.put,nzL])
    refine aW (by kernel_rfl) ?_ _;clear d0 d1 d2 d3 d4 d5 y0 y1 y2 y3 y4 y5 J4 F4 C JR;go_upto_region 42 with fail;generalize World.setCell (World.setCell (World.setCell (World.setCell (World.setCell (World.setCell E _ _) _ _) _ _) _ _) _ _) _ _=v5 at ZI JU T5 ⊢;have mv:Hid ((D.set (m+1) (r1.1,Z (T (Q gb 0 Y)) r1.1.f cb,Z (T (Q gm 0 Y)) r1.1.b cm))[m]?=T r1):=by show _=_;rw[OR (by omega)];exact la
    have ZK:=ae (ZI.six mv (r.1,Z (T (Q ga 0 Y)) r.1.f ca,Z (T (Q ZN 0 Y)) r.1.b cl) T5 ZL);have bx:=ZI.H.1;rw[LN] at bx;have L:=JU.out;have q0:A v5 (Q yb 0 Y)=T (U r.1.e):=by simp[World.cell?,L]
    have q1:A v5 (Q yb 1 Y)=T (J I r.1.E):=by simp[World.cell?,L]
    have q2:A v5 (Q yb 2 Y)=T (J I r.1.B):=by simp[World.cell?,L]
    have q3:A v5 (Q yb 3 Y)=T (U r.1.h):=by simp[World.cell?,L]
    have q4:A v5 (Q yb 4 Y)=T (Z (T (Q ga 0 Y)) r.1.f ca):=by simp[World.cell?,L]
    have q5:A v5 (Q yb 5 Y)=T (Z (T (Q ZN 0 Y)) r.1.b cl):=by simp[World.cell?,L]
    have F5:Hid (∀j,j<6->v5.frozen? (Q g (m*6+j) Y)=ZA/\∃u,A v5 (Q g (m*6+j) Y)=T u):=λj hj=>by have h:=ZI.L (j:=j) mv hj (gq (show j<(ddV r1).length from hj));exact⟨h.2,_,h.1⟩
    obtain⟨y0,u0,d0⟩:=F5.out 0 (by omega);obtain⟨y1,u1,d1⟩:=F5.out 1 (by omega);obtain⟨y2,u2,d2⟩:=F5.out 2 (by omega);obtain⟨y3,u3,d3⟩:=F5.out 3 (by omega);obtain⟨y4,u4,d4⟩:=F5.out 4 (by omega);obtain⟨y5,u5,d5⟩:=F5.out 5 (by omega);rw[NS] at y0 d0;have gl5:=ZI.gb.2.1;clear L ZI;go_wp2;go_meet;exact⟨_,_,_,_,by omega,ZK⟩
   ·by_cases h1:(1:Int)<(D.length:Int)
    iterate 2
     ·go_wp2
      go_meet;exact⟨_,_,_,_,by omega,F⟩
  ·as_aux_lemma =>
    have hcap:=jT F.row.i;obtain⟨JA,hj,aq,n9,JD⟩:=LY eu;have KO:IntKind.i64.wrap ((k:Int)+1)=(k:Int)+1:=by rw[wA];omega
    have KU:(k:Int)+1<=(D.length:Int):=by omega
    have Lu:((k:Int)+1).toNat=k+1:=by omega
    have hkc:(k:Int)<=(c1:Int):=by omega
    have Lp:(0:Int)<=(k:Int)+1:=by omega
    obtain⟨A2,Ld,Ka⟩:=zq (base:=w.heap.size+2) (g:=g) (c:=c1) hk (by omega);have Lv:=ae Ka;clear Ka;go_wp2_with fail;refine aE (λV=>A V (Q X 0 Y)=T (Z (T (Q g 0 Y)) D.length c1)) 13 (by kernel_rfl) ?_;have l:=ae (F.aa br.drew);clear F;generalize ZQ.drew=E at l ⊢;have B:=ae l.H.1;iterate 4
     refine aI 1 (v:=?_) rfl rfl (by kernel_rfl) (λ_ _ _ h=>h) rfl ?_ B ?_;rotate_left
     ·(intro wz s0;go_simp)
      (try with_reducible rfl)
     (try simp only[Act.put,nzL])
    iterate 5
     refine aI 6 (v:=?_) rfl rfl (by kernel_rfl) (λ_ _ _ h=>h) rfl ?_ B ?_;rotate_left
     ·(intro wz s0;go_simp)
      (try with_reducible rfl)
     (try simp only[Act.put,nzL])
    clear Ld;refine ag (i:=0) rfl (by kernel_rfl) λK ZR=>?_;go_simp;have Kt:=l.lt;have KV:=l.hX;have A4:=ae ((q9 E).alloc ly (N #[] 62));have O4:=ae (NQ (base:=w.heap.size+2) (e:=62) (size:=6) E #[] 0 (by omega) (by unfold maxLen;omega) rfl);have C:=ae (l.aa A4);have At:=ae C.H.1;refine ZR _ _ (λ_=>At) ?_;clear ZR K
    (try simp only[Act.put,nzL])
    refine ag (i:=5) rfl (by kernel_rfl) (λK ZR=>?_);refine aA rfl (.tmp 247) (.tmp 251) 23 rfl (w.heap.size+2) 62 JA (.agg #[U ⟨#[]⟩,J I 0,J I 0,U ⟨#[]⟩,Z Y 0 0,Z Y 0 0]) 6 96 MS hj aq n9 JD rfl (by decide) (Z (T (Q E.heap.size 0 Y)) 0 0) 0 [] (by simp[Act.eval]) O4.out (Q g 0 Y) k c1 ((D.take k).flatMap ddV) (by simp[Act.eval]) (by rw[eP ddV 6 (λ_=>rfl),MO,PI (by omega)]) (BP k C.row.i) (λu hu=>qU D ld u (by obtain⟨ZO,h2,h3⟩:=NW.1 hu;exact NW.2 ⟨ZO,UG h2,h3⟩)) (by unfold maxLen;omega) (by omega) (by simp;omega) ?_;intro v5 w5 ro DH JL;simp only[F6,MH] at ro;have B5:=ae (bg A4 DH (by simp) (λj e=>by simp[Value.ownBlock] at e;omega));have JV:∀j,v5.ownBlock=T j->E.heap.size<=j:=λj e=>by
     rcases JL with h|h;{rw[h] at e;simp[Value.ownBlock] at e;omega};{rw[h] at e;have:=BO e;simp at this;omega}
    have WB:=ae JV;have O5:=ae ro;have ZI:=ae (l.aa B5);have J8:=ae ZI.H.1;clear ro DH JL JV C O4 A4 At B;refine ZR _ _ (λ_=>J8) ?_;clear ZR K
    (try simp only[Act.put,nzL])
    obtain⟨a5,c5,rfl⟩:=aU O5;refine ag (i:=11) rfl (by kernel_rfl) λK ZR=>?_;refine aA rfl (.tmp 252) (.tmp 257) 23 rfl (w.heap.size+2) 62 JA (.agg #[U ⟨#[]⟩,J I 0,J I 0,U ⟨#[]⟩,Z Y 0 0,Z Y 0 0]) 6 96 MS hj aq n9 JD rfl (by decide) (Z a5 k c5) k ((D.take k).flatMap ddV) (by simp[Act.eval]) O5.out A2 (D.length - (k+1)) (c1 - (k+1)) ((D.drop (k+1)).flatMap ddV) (by simp[Act.eval]) (by rw[eP ddV 6 (λ_=>rfl),MI]) (Lv _ ZI.row.i) (λu hu=>qU D ld u (by obtain⟨ZO,h2,h3⟩:=NW.1 hu;exact NW.2 ⟨ZO,List.mem_of_mem_drop h2,h3⟩)) (by unfold maxLen;omega) (by omega) (by have:=B5.size;omega) ?_;intro v6 w6 bt th _;have B6:=ae (bg B5 th (B5.size) (λj e=>WB j e));rw[<-BM] at bt;obtain⟨a6,c6,rfl⟩:=aU bt;obtain⟨D2,Jp⟩:∃D2,D2=D.take k++D.drop (k+1):=⟨_,rfl⟩
    have Hx:D2.length=k+(D.length - (k+1)):=by rw[Jp,cM,MO,MI,PI (by omega)]
    rw[<-Jp,<-Hx] at bt;rw[<-Hx];have ZK:=ae (l.aa B6);have Fn:∀ZO∈D2,ZO∈D:=λZO h2=>by rw[Jp] at h2;exact(p8.1 h2).elim UG List.mem_of_mem_drop
    have S7:=ae (l.box_ B6 bt (λZO h2=>ZK.row.sub ZO (Fn ZO h2)) (λZO h2=>ZK.ak ZO (Fn ZO h2)) (by omega));clear Jp;have Jz:=ae ZK.H;clear bt th Fn Hx ZI O5 WB J8;refine ZR _ _ (λ_=>Jz.1) ?_;clear ZR K
    (try simp only[Act.put,nzL])
    refine ag (i:=12) rfl (by kernel_rfl) λK ZR=>?_;go_simp;refine ZR _ _ (λ_=>Jz.1) ?_;clear ZR K
    (try simp only[Act.put,nzL])
    have d0:=Jz.1;have d1:=Jz.2;have KX:=ZK.lt;refine ag (i:=13) rfl (by kernel_rfl) λK ZR=>?_;go_simp;refine ZR _ _ (λh=>absurd rfl h) ?_;clear ZR K
    (try simp only[Act.put,nzL])
    refine aW (by kernel_rfl) ?_ _;clear d0 d1 KX l ZK;go_wp2;go_meet;exact⟨_,_,_,_,by omega,S7⟩
  ·as_aux_lemma =>
    go_wp2_with fail;refine(au R _ 3 _ F.rd (by omega) (by omega) (by omega)).mono ?_;rintro e w4 ⟨z,rfl,z0,z1,H,G⟩;have l:=ae (F.F G H);clear G H F;obtain⟨m,hm⟩:∃m:Nat,60+z - 1=(m:Int):=⟨(60+z - 1).toNat,by omega⟩
    go_wp2_with fail;refine(Lc m _ (by omega)).mono ?_;rintro e w5 ⟨a5,n5,c5,f5,rfl,J7,JP,JK,Ko⟩;have C:=ae (l.aa JP);have rs:=C.rs;have r0:A w5 (Q (w.heap.size+1) 0 Y)=T (Z Y 0 0):=by simp[World.cell?,rs]
    have f0:w5.frozen? (Q (w.heap.size+1) 0 Y)=ZA:=by simp[World.frozen?,rs]
    have l0:=ah rs;have FN:=ae (l.other (ZM:=p+1100) JP J7 JK Ko (by omega));clear rs JP J7 JK Ko;go_wp2;try simp only[Exit.inBlock,Exit.then]
    exact bp (v:=.agg #[Z a5 n5 c5]) (by simp[results,results41,go_sem,r0]) rfl FN.out
  ·skip;have AB:=ae ((q9 ZQ).alloc ly (N #[U ⟨#[117,110,117,115,101,100]⟩,J I 2,J I 0,U ⟨#[]⟩,Z Y 0 0,Z Y 0 0] 62));have FB:=ae (n6 ZQ (N #[U ⟨#[117,110,117,115,101,100]⟩,J I 2,J I 0,U ⟨#[]⟩,Z Y 0 0,Z Y 0 0] 62));have l:=ae (F.aa AB);have Ki:w.heap.size+2<=ZQ.heap.size:=by have:=F.lt;omega
   have Kn:ZQ.heap.size≠X:=by have:=F.lt;omega
   have Kd:ZQ.heap.size≠g:=by have:=F.gb.2.1;omega
   go_wp2_with fail;generalize World.alloc ZQ _=v2 at l FB ⊢;generalize ZQ.heap.size=fb at FB Ki Kn Kd ⊢;clear AB F;go_loopg [10] D.length (λgh i wr=>∃(k2 q2:Nat) (nm tx:ByteArray) (kd:Int),k2+gh=D.length/\q2<=p+2+k2/\i=J I k2/\nm.size<=5000/\tx.size<=2000+K0/\Hid (SpS ZJ w R X wr q2 (T (Q g 0 Y)) c1 D)/\Hid (wr.heap[fb]?=T (N #[U nm,J I kd,J I 0,U tx,Z Y 0 0,Z Y 0 0] 62 (0,0))));case atStart=>exact⟨0,_,_,_,_,by omega,by omega,rfl,by decide,E4 _,l,FB⟩
   case round =>
    clear l FB;obtain⟨k2,q2,nm,tx,kd,hg2,hq2,rfl,JY,KD,l,FB⟩:=hrel;have hwk:IntKind.i64.wrap ((k2:Int)+1)=(k2:Int)+1:=by rw[wA];omega
    go_upto_region 9 with fail;go_cut [41] (λLe wx=>∃(b1:Bool) (q3:Nat),Le=ZD b1/\(b1=ZG->k2<D.length)/\q3<=q2+1/\Hid (SpS ZJ w R X wx q3 (T (Q g 0 Y)) c1 D)/\Hid (wx.heap[fb]?=T (N #[U nm,J I kd,J I 0,U tx,Z Y 0 0,Z Y 0 0] 62 (0,0))));case first =>
     by_cases JG:(k2:Int)<(D.length:Int)
     {go_wp2_with fail;refine(au R _ 2 _ l.rd (by omega) (by omega) (by omega)).mono ?_;rintro e w4 ⟨z,rfl,z0,z1,H,G⟩;have C:=ae (l.F G H);have ur:=ae ((G.block fb (ah FB) (by omega)).trans FB);clear G H;go_wp2;go_meet;exact⟨_,_,rfl,λ_=>by omega,by omega,C,ur⟩};{go_wp2;go_meet;exact⟨_,_,rfl,λh=>by simp at h,by omega,l,FB⟩}
    case rest =>
    clear l FB;obtain⟨b1,q3,rfl,Li,hq3,l,FB⟩:=hcut;cases b1 with
    |true =>
     have JG:k2<D.length:=Li rfl;obtain⟨ZO,J0,J5⟩:=cX (R:=D) JG;have mv:=ae J0;have Kk:=(Bk ZO J5)
     clear J0 J5;have bx:=l.H.1;have Kf:=(l.L (j:=1) mv (by omega) rfl).1;by_cases h3:ZO.1.E=3
     ·rw[h3] at Kf;have H3:=ae h3;clear h3;go_wp2;go_roundg (D.length - 1 - k2);case measure=>omega
      case rel=>exact⟨k2+1,q3,nm,tx,kd,by omega,by omega,by go_num,JY,KD,l,FB⟩
     ·have n3:(ZO.1.E == 3)=ZA:=by simpa using h3
      go_upto_region 12 with fail;clear bx Kf;refine aE (λV=>A V (Q X 0 Y)=T (Z (T (Q g 0 Y)) D.length c1)/\A V (Q g (k2*6) Y)=T (U ZO.1.e)/\A V (Q g (k2*6+1) Y)=T (J I ZO.1.E)/\A V (Q g (k2*6+3) Y)=T (U ZO.1.h)) 19 (by kernel_rfl) ?_;have C:=ae (l.aa br.drew);have ur:Hid (wc.drew.heap[fb]?=T (N #[U nm,J I kd,J I 0,U tx,Z Y 0 0,Z Y 0 0] 62 (0,0))):=FB.out;clear l FB;generalize wc.drew=E at C ur ⊢;have B:Hid (A E (Q X 0 Y)=T (Z (T (Q g 0 Y)) D.length c1)/\A E (Q g (k2*6) Y)=T (U ZO.1.e)/\A E (Q g (k2*6+1) Y)=T (J I ZO.1.E)/\A E (Q g (k2*6+3) Y)=T (U ZO.1.h)):=⟨C.H.1,by have h:=(C.L (j:=0) mv (by omega) rfl).1;rwa[NS] at h,(C.L (j:=1) mv (by omega) rfl).1,(C.L (j:=3) mv (by omega) rfl).1⟩
      iterate 19
       refine aI 0 (v:=?_) rfl rfl (by kernel_rfl) (λ_ _ _ h=>h) rfl ?_ B ?_;rotate_left
       ·(rintro wz ⟨s0,s1,s2,s3⟩;go_simp)
        (try with_reducible rfl)
       (try simp only[Act.put,nzL])
      have L:=ur.out;have lf:=ah L;have q0:A E (Q fb 0 Y)=T (U nm):=by simp[World.cell?,L]
      have q1:A E (Q fb 1 Y)=T (J I kd):=by simp[World.cell?,L]
      have KF:A E (Q fb 2 Y)=T (J I 0):=by simp[World.cell?,L]
      have Ll:A E (Q fb 3 Y)=T (U tx):=by simp[World.cell?,L]
      have q4:A E (Q fb 4 Y)=T (Z Y 0 0):=by simp[World.cell?,L]
      have q5:A E (Q fb 5 Y)=T (Z Y 0 0):=by simp[World.cell?,L]
      have z0:∀j,E.frozen? (Q fb j Y)=ZA:=λj=>by simp[World.frozen?,L]
      have ZI:=ae (C.aside Ki Kn Kd L (U ZO.1.e) (J I ZO.1.E) (J I 0) (U ZO.1.h) (Z Y 0 0) (Z Y 0 0));have Lm:=ae (LBx.six (W:=E) (b:=fb) L (U ZO.1.e) (J I ZO.1.E) (J I 0) (U ZO.1.h) (Z Y 0 0) (Z Y 0 0));clear L;refine ag (i:=19) rfl (by kernel_rfl) λK ZR=>?_;go_simp;refine ZR _ _ (λh=>absurd rfl h) ?_;clear ZR K B
      (try simp only[Act.put,nzL])
      refine aW (by kernel_rfl) ?_ _;clear q0 q1 KF Ll q4 q5 z0 C ur;go_wp2;go_roundg (D.length - 1 - k2);case measure=>omega
      case rel=>exact⟨k2+1,q3,ZO.1.e,ZO.1.h,ZO.1.E,by omega,by omega,by go_num,Kk.nm,Kk.tx,ZI,Lm⟩
    |false =>
     have L:=FB.out;have lf:=ah L;have e0:A wc (Q fb 0 Y)=T (U nm):=by simp[World.cell?,L]
     have e1:A wc (Q fb 1 Y)=T (J I kd):=by simp[World.cell?,L]
     have e2:A wc (Q fb 2 Y)=T (J I 0):=by simp[World.cell?,L]
     have e3:A wc (Q fb 3 Y)=T (U tx):=by simp[World.cell?,L]
     have e4:A wc (Q fb 4 Y)=T (Z Y 0 0):=by simp[World.cell?,L]
     have e5:A wc (Q fb 5 Y)=T (Z Y 0 0):=by simp[World.cell?,L]
     clear L;have bx:=l.H.1;have lx:=l.lt;have KV:=l.hX;obtain⟨JA,hj,aq,n9,JD⟩:=LY eu;have A4:=ae ((q9 wc).alloc ly (N #[U nm,J I kd,J I 0,U tx,Z Y 0 0,Z Y 0 0] 62));have O4:Hid ((wc.alloc (N #[U nm,J I kd,J I 0,U tx,Z Y 0 0,Z Y 0 0] 62)).ownsRow (w.heap.size+2) 62 6 (Z (T (Q wc.heap.size 0 Y)) 1 1) 1 [U nm,J I kd,J I 0,U tx,Z Y 0 0,Z Y 0 0]):=mi (cs:=#[U nm,J I kd,J I 0,U tx,Z Y 0 0,Z Y 0 0]) (by omega) (by unfold maxLen;omega) rfl;have C:=ae (l.aa A4);have Lo:=C.H.1;have Ln:=C.H.2;go_wp2_with (at_builtin;refine BS _ rfl (.tmp 71) (.tmp 73) 23 rfl (w.heap.size+2) 62 JA (.agg #[U ⟨#[]⟩,J I 0,J I 0,U ⟨#[]⟩,Z Y 0 0,Z Y 0 0]) 6 96 MS hj aq n9 JD rfl (by decide) (Z (T (Q wc.heap.size 0 Y)) 1 1) 1 [U nm,J I kd,J I 0,U tx,Z Y 0 0,Z Y 0 0] (by simp[Act.eval]) O4.out (Q g 0 Y) D.length c1 (D.flatMap ddV) (by simp[Act.eval]) (eP ddV 6 (λ_=>rfl) D) (λj u hu=>C.row.i.cells (g:=g) rfl j u hu) (qU D ld) (by unfold maxLen;omega) (by omega) (by simp;omega) ?_;intro v5 w5 Fm JC KC;obtain⟨g5,c5,rfl⟩:=bV Fm (by omega);have B5:=ae (bg A4 JC (by simp) (λj e=>by simp[Value.ownBlock] at e;omega));have O5:=ae Fm;have ZI:=ae (l.aa B5);obtain⟨KP,KZ⟩:=ZI.H;have KT:=ZI.lt;clear Fm JC KC);obtain⟨D3,ph⟩:∃D3,D3=ju nm tx kd::D:=⟨_,rfl⟩
     have JJ:D3.length=1+D.length:=by rw[ph,eT];omega
     have Ju:w5.ownsRow (w.heap.size+2) 62 6 (Z (T (Q g5 0 Y)) D3.length c5) D3.length (D3.flatMap ddV):=by rw[JJ,ph,J2];exact O5
     have ZK:=ae (l.box_ B5 Ju (λr6 h6=>by
      rw[ph] at h6;rcases A9.1 h6 with rfl|h6;{exact uQ _ _ _ _ _}
      ·exact ZI.row.sub r6 h6) (λr6 h6=>by
      rw[ph] at h6;rcases A9.1 h6 with rfl|h6;{exact pc kd JY (by omega)}
      ·exact ZI.ak r6 h6) (by omega))
     have UP:Hid ((D3.map (·.2.2)).Pairwise Apt):=by rw[ph];exact Is J6 nm tx kd
     have hn3:D3.length<=450+ZJ:=by omega
     rw[<-JJ];generalize World.setCell w5 _ _=v6 at ZK ⊢;clear Ju ph JJ O5 B5 ZI C A4 O4 l FB KP KZ KT Lo Ln bx lx e0 e1 e2 e3 e4 e5;go_loopg [11,12] D3.length (λgh i _ wr=>∃(k3:Nat) (D4:List DR),k3+gh=D3.length/\i=J I k3/\Hid (D4.length=D3.length)/\Hid (D4.map (·.2)=D3.map (·.2))/\Hid (SpS ZJ w R X wr q3 (T (Q g5 0 Y)) c5 D4));case atStart=>exact⟨0,D3,by omega,rfl,rfl,rfl,ZK⟩
     case round =>
      clear ZK;obtain⟨k3,D4,hg3,rfl,DE,Kv,S7⟩:=hrel;have La:D4.length<=450+ZJ:=by have:=DE.out;omega
      have hwk3:IntKind.i64.wrap ((k3:Int)+1)=(k3:Int)+1:=by rw[wA];have:=DE.out;omega
      have Lr:=S7.H.1;by_cases JG:(k3:Int)<(D4.length:Int)
      ·obtain⟨r4,J9,Ks⟩:=cX (R:=D4) (i:=k3) (by omega);have Lf:=ae J9;have hln4:=(S7.ak r4 Ks).ln;clear J9 Ks;go_wp2_with fail;clear Lr;go_loopg [12] r4.1.b (λgh j wr=>∃(j3:Nat) (D5:List DR) (O:DR),j3+gh=r4.1.b/\j=J I j3/\Hid (D5.length=D4.length)/\Hid (D5.map (·.2)=D4.map (·.2))/\Hid (D5[k3]?=T O)/\Hid (O.1.b=r4.1.b)/\Hid (SpS ZJ w R X wr q3 (T (Q g5 0 Y)) c5 D5));case atStart=>exact⟨0,D4,r4,by omega,rfl,rfl,rfl,Lf,rfl,S7⟩
       case round =>
        clear S7;obtain⟨j3,D5,O,hg5,rfl,Jw,JB,qr,dg,S8⟩:=hrel;have Lb:k3<D5.length:=by have:=Jw.out;omega
        have Kq:=L8 qr.out;have JW:=ae Kq;clear Kq;have hln5:O.1.b<=200+ZJ:=by have:=dg.out;omega
        have hwj3:IntKind.i64.wrap ((j3:Int)+1)=(j3:Int)+1:=by rw[wA];have:=dg.out;omega
        obtain⟨al,cl,el⟩:=bK (S8.row.sub O JW).V;have EL:=ae el;have Lh:=S8.H.1;have KQ:_=T (Value.slice al O.1.b cl):=(S8.L (j:=5) qr (by omega) (by rw[<-el];rfl)).1;clear el;by_cases hjl:(j3:Int)<(O.1.b:Int)
        ·have Jv:j3<O.1.b:=by omega
         obtain⟨ZN,Lg,e2⟩:=bV (S8.row.sub O JW).V (by omega);rw[EL.out] at e2;obtain⟨rfl,-,-⟩:=QY e2;clear e2 Lg;have OL:Hid (∀V q,SpS ZJ w R X V q (T (Q g5 0 Y)) c5 D5->V.ownsRow (w.heap.size+2) 93 4 (Z (T (Q ZN 0 Y)) O.1.b cl) O.1.b (bo O.1.m O.1.b)):=λV q hV=>by rw[<-EL.out];exact(hV.row.sub O JW).V
         have ak:=(cV (j:=1) (OL _ _ S8) Jv (by omega) rfl).1;cases hask:(O.1.m j3).ask with
         |false =>
          rw[hask] at ak;clear hask;go_wp2;go_roundg (r4.1.b - 1 - j3);case measure=>have:=dg.out;omega
          case rel=>exact⟨j3+1,D5,O,by have:=dg.out;omega,by go_num,Jw,JB,qr,dg,S8⟩
         |true =>
          rw[hask] at ak;clear hask;go_upto_region 21 with fail;clear Lh KQ ak;refine aE (λV=>A V (Q X 0 Y)=T (Z (T (Q g5 0 Y)) D5.length c5)/\A V (Q g5 (k3*6+5) Y)=T (Z (T (Q ZN 0 Y)) O.1.b cl)/\A V (Q ZN (j3*4+3) Y)=T (J I (O.1.m j3).L)) 20 (by kernel_rfl) ?_;have S9:=ae (S8.aa br.drew);clear S8;generalize wr.drew=v8 at S9 ⊢;have B:Hid (A v8 (Q X 0 Y)=T (Z (T (Q g5 0 Y)) D5.length c5)/\A v8 (Q g5 (k3*6+5) Y)=T (Z (T (Q ZN 0 Y)) O.1.b cl)/\A v8 (Q ZN (j3*4+3) Y)=T (J I (O.1.m j3).L)):=⟨S9.H.1,(S9.L (j:=5) qr (by omega) (by rw[<-EL.out];rfl)).1,(cV (j:=3) (OL _ _ S9) Jv (by omega) rfl).1⟩
          iterate 18
           refine aI 0 (v:=?_) rfl rfl (by kernel_rfl) (λ_ _ _ h=>h) rfl ?_ B ?_;rotate_left
           ·(rintro wz ⟨s0,s1,s2⟩;go_simp)
            (try with_reducible rfl)
           (try simp only[Act.put,nzL])
          generalize IntKind.i64.wrap ((O.1.m j3).L+1)=zz;iterate 2
           refine cB 18 rfl rfl (by kernel_rfl) λK ZR=>?_;go_simp;refine ZR _ _ (λ_=>B) ?_;clear ZR K
           (try simp only[Act.put,nzL])
          have d0:=B.2.2;have d1:=(cV (j:=3) (OL _ _ S9) Jv (by omega) rfl).2;have KN:=((OL _ _ S9).lt ZN rfl).2;have Ke:(D5.map (·.2.2)).Pairwise Apt:=by
           have e3:D5.map (·.2.2)=D3.map (·.2.2):=by have e4:=AP (List.map Prod.snd) (JB.trans Kv);rw[List.map_map,List.map_map] at e4;exact e4
           rw[e3];exact UP
          have Lj:=ae (S9.V Ke qr EL Jv zz);clear Ke;refine ag (i:=20) rfl (by kernel_rfl) λK ZR=>?_;go_simp;refine ZR _ _ (λh=>absurd rfl h) ?_;clear ZR K B
          (try simp only[Act.put,nzL])
          refine aW (by kernel_rfl) ?_ _;clear d0 d1 KN S9;go_wp2;go_roundg (r4.1.b - 1 - j3);case measure=>have:=dg.out;omega
          case rel=>exact⟨j3+1,D5.set k3 (atD O.1 j3 zz,O.2),(atD O.1 j3 zz,O.2),by have:=dg.out;omega,by go_num,LN.trans Jw,(EU qr _).trans JB,NT Lb,dg,Lj⟩
        ·go_wp2;go_roundg (D3.length - 1 - k3);case measure=>have:=DE.out;omega
         case rel=>exact⟨k3+1,D5,by have:=DE.out;omega,by go_num,Jw.trans DE,JB.trans Kv,S8⟩
      {go_wp2;go_meet;exact⟨_,_,_,_,by omega,S7⟩}
  all_goals
   as_aux_lemma =>
    first
     |have e:s=0:=h
      subst e;obtain⟨r0,Kj,Js⟩:=cX (R:=D) (i:=0) (by omega);have H0:=ae Kj;have Lt:r0.1.e.size<=5000:=(Bk r0 Js).nm;clear Kj Js;go_wp2_with fail;refine aE (λV=>A V (Q X 0 Y)=T (Z (T (Q g 0 Y)) D.length c1)/\A V (Q g 0 Y)=T (U r0.1.e)) 16 (by kernel_rfl) ?_;have l:=ae (F.aa br.drew);clear F;generalize ZQ.drew=E at l ⊢;have hD0:0<D.length:=by omega
      have B:Hid (A E (Q X 0 Y)=T (Z (T (Q g 0 Y)) D.length c1)/\A E (Q g 0 Y)=T (U r0.1.e)):=⟨l.H.1,by have h:=(l.L (k:=0) (j:=0) H0 (by omega) rfl).1;simpa using h⟩
      iterate 8
       refine aI 0 (v:=?_) rfl rfl (by kernel_rfl) (λ_ _ _ h=>h) rfl ?_ B ?_;rotate_left
       ·(rintro wz ⟨s0,s1⟩;go_simp)
        (try with_reducible rfl)
       (try simp only[Act.put,nzL])
      refine aI 10 (v:=?_) rfl rfl (by kernel_rfl) (λ_ _ _ h=>h) rfl ?_ B ?_;rotate_left
      ·(rintro wz ⟨s0,s1⟩;go_simp)
       (try with_reducible rfl)
      (try simp only[Act.put,nzL])
      refine ag (i:=8) rfl (by kernel_rfl) λK ZR=>?_;go_simp;go_at_call 35;obtain⟨m1,Jq⟩:∃m1:Nat,(61:Int)=(m1:Int):=⟨61,rfl⟩
      rw[Jq];refine(fj ⟨#[110]⟩ m1 _ (by show 1*m1<=4000;omega) (by omega)).mono ?_;rintro e v6 ⟨t,rfl,ht,hw⟩;rw[hw];have JT:t.size<=5000:=p9 ht (by show 1*m1<=5000;omega);clear ht hw;refine ZR _ _ (λ_=>B) ?_;clear ZR K
      (try simp only[Act.put,nzL])
      refine ue (i:=9) (j:=11) rfl rfl (by kernel_rfl) (λK ZR=>?_) λK ZR=>?_
      focus
       go_simp;have A4:=(q9 E).alloc ly (N #[U ⟨#[]⟩,U ⟨#[120,32,121]⟩,U r0.1.e,U t] 9);have HL:Hid ((E.alloc (N #[U ⟨#[]⟩,U ⟨#[120,32,121]⟩,U r0.1.e,U t] 9)).heap[E.heap.size]?=T (N #[U ⟨#[]⟩,U ⟨#[120,32,121]⟩,U r0.1.e,U t] 9 (0,0))):=n6 E _;have C:=ae (l.aa A4);have JE:=l.lt;have JM:=l.hX;have Jt:E.heap.size≠R:=by omega
       clear A4 B JE JM;generalize World.alloc E _=P at C HL ⊢;generalize E.heap.size=Ky at HL Jt ⊢;have B:Hid (A P (Q X 0 Y)=T (Z (T (Q g 0 Y)) D.length c1)/\A P (Q g 0 Y)=T (U r0.1.e)):=⟨C.H.1,by have h:=(C.L (k:=0) (j:=0) H0 (by omega) rfl).1;simpa using h⟩
       refine ZR _ _ (λ_=>B) ?_;clear ZR K
       (try simp only[Act.put,nzL])
       refine ag (i:=11) rfl (by kernel_rfl) λK ZR=>?_;go_simp;go_at_call 20;refine(au R _ 4 _ C.rd (by omega) (by omega) (by omega)).mono ?_;rintro e v5 ⟨z4,rfl,Id,KB,H,G⟩;obtain⟨m,rfl⟩:=BC Id;have hm:m<4:=by omega
       have ZK:=ae (C.F G H);have HL:=ae ((G.block Ky (ah HL) Jt).trans HL);clear G H C B;have B:Hid (A v5 (Q X 0 Y)=T (Z (T (Q g 0 Y)) D.length c1)/\A v5 (Q g 0 Y)=T (U r0.1.e)):=⟨ZK.H.1,by have h:=(ZK.L (k:=0) (j:=0) H0 (by omega) rfl).1;simpa using h⟩
       refine ZR _ _ (λ_=>B) ?_;clear ZR K
       (try simp only[Act.put,nzL])
      rotate_left
      focus
       go_simp;go_at_call 20;refine(au R _ 4 _ l.rd (by omega) (by omega) (by omega)).mono ?_;rintro e P ⟨z4,rfl,Id,KB,H,G⟩;obtain⟨m,rfl⟩:=BC Id;have hm:m<4:=by omega
       have C:=ae (l.F G H);clear G H l B;have B:Hid (A P (Q X 0 Y)=T (Z (T (Q g 0 Y)) D.length c1)/\A P (Q g 0 Y)=T (U r0.1.e)):=⟨C.H.1,by have h:=(C.L (k:=0) (j:=0) H0 (by omega) rfl).1;simpa using h⟩
       refine ZR _ _ (λ_=>B) ?_;clear ZR K
       (try simp only[Act.put,nzL])
       refine ag (i:=9) rfl (by kernel_rfl) λK ZR=>?_;go_simp;have A4:=(q9 P).alloc ly (N #[U ⟨#[]⟩,U ⟨#[120,32,121]⟩,U r0.1.e,U t] 9);have HL:Hid ((P.alloc (N #[U ⟨#[]⟩,U ⟨#[120,32,121]⟩,U r0.1.e,U t] 9)).heap[P.heap.size]?=T (N #[U ⟨#[]⟩,U ⟨#[120,32,121]⟩,U r0.1.e,U t] 9 (0,0))):=n6 P _;have ZK:=ae (C.aa A4);have JE:=C.lt;have JM:=C.hX;have Jt:P.heap.size≠R:=by omega
       clear A4 B JE JM;generalize World.alloc P _=v5 at ZK HL ⊢;generalize P.heap.size=Ky at HL Jt ⊢;have B:Hid (A v5 (Q X 0 Y)=T (Z (T (Q g 0 Y)) D.length c1)/\A v5 (Q g 0 Y)=T (U r0.1.e)):=⟨ZK.H.1,by have h:=(ZK.L (k:=0) (j:=0) H0 (by omega) rfl).1;simpa using h⟩
       refine ZR _ _ (λ_=>B) ?_;clear ZR K
       (try simp only[Act.put,nzL])
      all_goals
       obtain⟨zz,Lq,hzz⟩:=Fa HL (by decide) (by decide) Lt JT m hm
       iterate 4
        refine cB 12 rfl rfl (by kernel_rfl) λK ZR=>?_;go_simp;refine ZR _ _ (λ_=>B) ?_;clear ZR K
        (try simp only[Act.put,nzL])
       obtain⟨d0,d1⟩:=ZK.L (j:=0) ZP (by omega) rfl;rw[NS] at d0 d1;have ZN:=ZK.gb.2.1;have S9:=ae (ZK.fld (j:=0) (u:=U zz) (r':=({ r.1 with e:=zz },r.2)) ZP (by omega) rfl ((ZK.row.sub r HM).same _ rfl rfl rfl rfl) (ZL.e Lq))
     |have e:s=1:=h
      subst e;go_wp2_with fail;refine aE (λV=>A V (Q X 0 Y)=T (Z (T (Q g 0 Y)) D.length c1)) 7 (by kernel_rfl) ?_;have l:=ae (F.aa br.drew);clear F;generalize ZQ.drew=E at l ⊢;have B:=ae l.H.1
      iterate 4
       refine aI 0 (v:=?_) rfl rfl (by kernel_rfl) (λ_ _ _ h=>h) rfl ?_ B ?_;rotate_left
       ·(intro wz s0;go_simp)
        (try with_reducible rfl)
       (try simp only[Act.put,nzL])
      refine ag (i:=4) rfl (by kernel_rfl) λK ZR=>?_;go_simp;go_at_call 20;refine(au R _ 5 _ l.rd (by omega) (by omega) (by omega)).mono ?_;rintro e P ⟨z4,rfl,Kw,Kh,H,G⟩;have C:=ae (l.F G H);clear G H l B;have B:=ae C.H.1;refine ZR _ _ (λ_=>B) ?_;clear ZR K
      (try simp only[Act.put,nzL])
      iterate 2
       refine cB 5 rfl rfl (by kernel_rfl) λK ZR=>?_;go_simp;refine ZR _ _ (λ_=>B) ?_;clear ZR K
       (try simp only[Act.put,nzL])
      obtain⟨d0,d1⟩:=C.L (j:=1) ZP (by omega) rfl;have ZN:=C.gb.2.1;have S9:=ae (C.fld (j:=1) (u:=J I z4) (r':=({ r.1 with E:=z4 },r.2)) ZP (by omega) rfl ((C.row.sub r HM).same _ rfl rfl rfl rfl) (ZL.E z4))
     |have e:s=2:=h
      subst e;go_wp2_with fail;refine aE (λV=>A V (Q X 0 Y)=T (Z (T (Q g 0 Y)) D.length c1)) 8 (by kernel_rfl) ?_;have l:=ae (F.aa br.drew);clear F;generalize ZQ.drew=E at l ⊢;have B:=ae l.H.1
      iterate 4
       refine aI 0 (v:=?_) rfl rfl (by kernel_rfl) (λ_ _ _ h=>h) rfl ?_ B ?_;rotate_left
       ·(intro wz s0;go_simp)
        (try with_reducible rfl)
       (try simp only[Act.put,nzL])
      refine ag (i:=4) rfl (by kernel_rfl) λK ZR=>?_;go_simp;go_at_call 20;refine(au R _ 8 _ l.rd (by omega) (by omega) (by omega)).mono ?_;rintro e P ⟨z4,rfl,Kw,Kh,H,G⟩;have C:=ae (l.F G H);clear G H l B;have B:=ae C.H.1;refine ZR _ _ (λ_=>B) ?_;clear ZR K
      (try simp only[Act.put,nzL])
      have JZ:IntKind.i64.wrap (z4 - 1)=z4 - 1:=by rw[wA];omega
      iterate 3
       refine cB 5 rfl rfl (by kernel_rfl) λK ZR=>?_;go_simp;refine ZR _ _ (λ_=>B) ?_;clear ZR K
       (try simp only[Act.put,nzL])
      obtain⟨d0,d1⟩:=C.L (j:=2) ZP (by omega) rfl;have ZN:=C.gb.2.1;have S9:=ae (C.fld (j:=2) (u:=J I (z4 - 1)) (r':=({ r.1 with B:=z4 - 1 },r.2)) ZP (by omega) rfl ((C.row.sub r HM).same _ rfl rfl rfl rfl) (ZL.B _))
     |have e:s=3:=h
      subst e;go_wp2_with fail;refine aE (λV=>A V (Q X 0 Y)=T (Z (T (Q g 0 Y)) D.length c1)/\A V (Q g (k*6+3) Y)=T (U r.1.h)) 12 (by kernel_rfl) ?_;have l:=ae (F.aa br.drew);clear F;generalize ZQ.drew=E at l ⊢;have B:Hid (A E (Q X 0 Y)=T (Z (T (Q g 0 Y)) D.length c1)/\A E (Q g (k*6+3) Y)=T (U r.1.h)):=⟨l.H.1,(l.L (j:=3) ZP (by omega) rfl).1⟩
      have hsz:¬ 9223372036854775807<r.1.h.size+1:=by omega
      have Kz:(r.1.h++⟨#[120]⟩).size<=2000+ZJ:=by have e1:(⟨#[120]⟩:ByteArray).size=1:=rfl;rw[MQ,e1];omega
      iterate 9
       refine aI 0 (v:=?_) rfl rfl (by kernel_rfl) (λ_ _ _ h=>h) rfl ?_ B ?_;rotate_left
       ·(rintro wz ⟨s0,s1⟩;go_simp)
        (try with_reducible rfl)
       (try simp only[Act.put,nzL])
      iterate 3
       refine cB 9 rfl rfl (by kernel_rfl) λK ZR=>?_;go_simp;refine ZR _ _ (λ_=>B) ?_;clear ZR K
       (try simp only[Act.put,nzL])
      obtain⟨d0,d1⟩:=l.L (j:=3) ZP (by omega) rfl;have ZN:=l.gb.2.1;have S9:=ae (l.fld (j:=3) (u:=U (r.1.h++⟨#[120]⟩)) (r':=({ r.1 with h:=r.1.h++⟨#[120]⟩ },r.2)) ZP (by omega) rfl ((l.row.sub r HM).same _ rfl rfl rfl rfl) (ZL.h Kz))
     |have e:s=4:=h
      subst e;go_wp2_with fail;refine aE (λV=>A V (Q X 0 Y)=T (Z (T (Q g 0 Y)) D.length c1)) 9 (by kernel_rfl) ?_;have l:=ae (F.aa br.drew);clear F;generalize ZQ.drew=E at l ⊢;have B:=ae l.H.1
      iterate 4
       refine aI 0 (v:=?_) rfl rfl (by kernel_rfl) (λ_ _ _ h=>h) rfl ?_ B ?_;rotate_left
       ·(intro wz s0;go_simp)
        (try with_reducible rfl)
       (try simp only[Act.put,nzL])
      refine ag (i:=4) rfl (by kernel_rfl) λK ZR=>?_;go_simp;go_at_call 20;refine(au R _ 2 _ l.rd (by omega) (by omega) (by omega)).mono ?_;rintro e P ⟨z4,rfl,Kw,Kh,H,G⟩;have C:=ae (l.F G H);clear G H l B;have B:=ae C.H.1;refine ZR _ _ (λ_=>B) ?_;clear ZR K
      (try simp only[Act.put,nzL])
      have JZ:IntKind.i64.wrap (2000+z4)=2000+z4:=by rw[wA];omega
      refine ag (i:=5) rfl (by kernel_rfl) λK ZR=>?_;go_simp;refine ZR _ _ (λ_=>B) ?_;clear ZR K
      (try simp only[Act.put,nzL])
      obtain⟨m0,Js⟩:∃m0:Nat,2000+z4=(m0:Int):=⟨(2000+z4).toNat,by omega⟩
      rw[Js];refine ag (i:=6) rfl (by kernel_rfl) λK ZR=>?_;go_simp;go_at_call 35;refine(fj ⟨#[116]⟩ m0 _ (by show 1*m0<=4000;omega) (by omega)).mono ?_;rintro e v6 ⟨t,rfl,ht,hw⟩;rw[hw];have JT:t.size<=2000+ZJ:=p9 ht (by show 1*m0<=2000+ZJ;omega);clear ht hw JZ;refine ZR _ _ (λ_=>B) ?_;clear ZR K
      (try simp only[Act.put,nzL])
      iterate 2
       refine cB 7 rfl rfl (by kernel_rfl) λK ZR=>?_;go_simp;refine ZR _ _ (λ_=>B) ?_;clear ZR K
       (try simp only[Act.put,nzL])
      obtain⟨d0,d1⟩:=C.L (j:=3) ZP (by omega) rfl;have ZN:=C.gb.2.1;have S9:=ae (C.fld (j:=3) (u:=U t) (r':=({ r.1 with h:=t },r.2)) ZP (by omega) rfl ((C.row.sub r HM).same _ rfl rfl rfl rfl) (ZL.h JT))
     |have e:s=5:=h
      subst e;obtain⟨⟨ga,ca,ea⟩,-⟩:=ld.out r HM;have EA:=ae ea;clear ea;go_wp2_with fail;refine aE (λV=>A V (Q X 0 Y)=T (Z (T (Q g 0 Y)) D.length c1)/\A V (Q g (k*6+4) Y)=T (Z (T (Q ga 0 Y)) r.1.f ca)) 13 (by kernel_rfl) ?_;have l:=ae (F.aa br.drew);clear F;generalize ZQ.drew=E at l ⊢;have B:Hid (A E (Q X 0 Y)=T (Z (T (Q g 0 Y)) D.length c1)/\A E (Q g (k*6+4) Y)=T (Z (T (Q ga 0 Y)) r.1.f ca)):=⟨l.H.1,(l.L (j:=4) ZP (by omega) (by rw[<-EA.out];rfl)).1⟩
      iterate 10
       refine aI 0 (v:=?_) rfl rfl (by kernel_rfl) (λ_ _ _ h=>h) rfl ?_ B ?_;rotate_left
       ·(rintro wz ⟨s0,s1⟩;go_simp)
        (try with_reducible rfl)
       (try simp only[Act.put,nzL])
      refine ag (i:=10) rfl (by kernel_rfl) λK ZR=>?_;go_simp;go_at_call 77;refine(Cc (l.row.sub r HM) EA l.rd (by omega) Jy (by omega)).mono ?_;rintro e P ⟨L4,g4,c4,rfl,Kr,-,La,Kb,q4,hq4,H,G⟩;have C:=ae (l.F G H);have Kt:=l.lt;have I4:Hid (P.ownsRow (w.heap.size+2) 90 3 (Z (T (Q g4 0 Y)) L4.length c4) L4.length (bH (dh L4) L4.length)):=by show World.ownsRow _ _ _ _ _ _ _;rw[<-uC];exact aC Kr (by omega)
      have T4:=ae Kb;clear G H l B Kr Kb Kt;have B:Hid (A P (Q X 0 Y)=T (Z (T (Q g 0 Y)) D.length c1)/\A P (Q g (k*6+4) Y)=T (Z (T (Q ga 0 Y)) r.1.f ca)):=⟨C.H.1,(C.L (j:=4) ZP (by omega) (by rw[<-EA.out];rfl)).1⟩
      refine ZR _ _ (λ_=>B) ?_;clear ZR K
      (try simp only[Act.put,nzL])
      iterate 2
       refine cB 11 rfl rfl (by kernel_rfl) λK ZR=>?_;go_simp;refine ZR _ _ (λ_=>B) ?_;clear ZR K
       (try simp only[Act.put,nzL])
      have d0:=B.2;have d1:=(C.L (j:=4) ZP (by omega) rfl).2;have ZN:=C.gb.2.1;have S9:=ae (C.fld (j:=4) (u:=Z (T (Q g4 0 Y)) L4.length c4) (r':=({ r.1 with f:=L4.length,G:=dh L4 },Z (T (Q g4 0 Y)) L4.length c4,r.2.2)) ZP (by omega) rfl ⟨I4,(C.row.sub r HM).V⟩ ⟨ZL.nm,ZL.tx,by show L4.length<=200+ZJ;omega,me T4,ZL.ln,ZL.lsz⟩)
    all_goals
     refine cB 0 rfl rfl (by kernel_rfl) λK ZR=>?_;go_simp;refine ZR _ _ (λh=>absurd rfl h) ?_;clear ZR K B
     (try simp only[Act.put,nzL])
     refine aW (by kernel_rfl) ?_ _;clear d0 d1 ZN;go_wp2;go_meet;exact⟨_,_,_,_,by omega,S9⟩
 case rest =>
 clear F;obtain⟨a',c',q',D',Ls,S9⟩:=hcut;have bx:=S9.H.1;have rs:=S9.rs;have r0:A wc (Q (w.heap.size+1) 0 Y)=T (Z Y 0 0):=by simp[World.cell?,rs]
 have f0:wc.frozen? (Q (w.heap.size+1) 0 Y)=ZA:=by simp[World.frozen?,rs]
 have l0:=ah rs;have FN:=ae (S9.fin (by omega) Ls);clear rs;go_wp2;exact bp (v:=.agg #[Z a' D'.length c']) (by simp[results,results41,go_sem,r0]) rfl FN.out
