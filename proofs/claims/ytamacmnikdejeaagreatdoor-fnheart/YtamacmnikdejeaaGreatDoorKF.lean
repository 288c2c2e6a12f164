import Derived.Test.YtamacmnikdejeaaGreatDoorKE
import Derived.WalkSmall
set_option maxRecDepth 1000000
set_option maxHeartbeats 8000000
open Go renaming Addr.mk->Q,Value.slice->Y,Value.string->U,Value.int->J,Value.agg->ZG,Obj.cells->N,IntKind.i64->I,World->E,Value->ZB,TypeId->ZH,Ending.returned->ZF,World.heap->B,Proofs.Tryz.prog->Pg
open Option renaming none->Z,some->T
open Bool renaming false->ZA,true->ZD
open Array renaming size->A
namespace Go.Proofs.YtamacmnikdejeaaGreatDoor.Vp
open Tryz RowKit Ca Go.Maps
variable {w:E}{s0 s1:ZB}{nm:ByteArray}
theorem uN{i:Array Oper}{o:Oper}{a:Act}{K:Act->E->Prop}{ZM:Exit->Act->E->Prop}{ZQ:Prop}(r:o.guard=Z)(m x v:Operand)(t:ZH)(p:o.op=Op.mapUpdate t m x v)(e:ZH)(C:Pg.underlying t=T (.map 9 e))(b n:Nat)(G:List UInt8->Option ZB)
  (ZS:a.eval m=.map (T b)) (l:MapN w b n G) (hn:n<maxLen) (g:ByteArray) (f:ZB) (H:a.eval x=U g) (ZO:a.eval v=f) (u:g.size<=maxLen)
  (y:∀h,MapN h b (n+1) (λs=>if s=g.toList then T f else G s)->w.grownBy h (T b)->K (a.put o.dst undef) h) :
  if Region.wanted o (yielded i a.tmps)=ZD then Oper.wp Pg o a w K ZM else ZQ:=by
 have z:Region.wanted o (yielded i a.tmps)=ZD:=by simp[Region.wanted,r]
 rw[j6 z];obtain⟨D,q,ZP⟩:=l;obtain⟨h,j,r1,ZR⟩:=q.update qP C hn (OU KT u) (val:=f) (d:=.held f) (ps:=[]) rfl;unfold Oper.wp;simp[execOp,p,ZS,H,ZO,j,Result.andThen];refine y h ⟨_,r1,?_⟩ ZR;have:=uH (x:=g.toList) (v:=f) q.isMap ZP;rw[LF] at this ⊢;exact this
theorem As (w:E)(v:ZB)(t:ZH):∀j u,[v][j]?=T u->(w.alloc (N #[v] t)).cell? (((Q (A (B w)) 0 Z):Addr).add j)=T u:=by
 intro j u h;rw[addr_add];have f:j=0:=by
  rcases MG j 1 with b|b;{omega};{rw[LJ (by simp;omega)] at h;cases h}
 subst f;simp at h;subst h;simp
theorem wrapM{z:Int}(h0:0<=z)(h1:z<=1048576):IntKind.i64.wrap z=z:=by rw[p9];omega
def dK (w0:E)(S:Spc)(mb mp:Nat)(s0 s1:ZB)(making:List ByteArray)(made:List Ent)(G:ByteArray->Nat)(V:ByteArray->ZB)(w:E)(nm:ByteArray)(e:Ending)(f:E):Out Ent->Prop
 |.inl (made',x)=>∃b i g o j m n h,made'=b++[x]/\(i=making∨i=making++[nm])/\e=ZF (.pointer (T (Q h 0 Z)))/\MI w0 S mb mp s0 s1 f i making b g o j m/\EntAt w0 S g f h n x/\x.e=nm/\(∀y∈b,y.e≠nm)/\PG S making b/\(∀l∈x.looks,l.ask=ZD->∃y∈b,y.e=l.e)/\(∀y∈b,g y.e≠h)/\(A (B w))<=h/\(∀k,n.ownBlock=T k->A (B w)<=k)/\Ext (A (B w)) made b G g V o/\KX (A (B w0)) XN w f
 |.inr (.inl c)=>∃v,e=.panicked [{ v:=.iface 236 (ZG #[v]),recovered:=ZA }]/\f.ownsRow (A (B w0)) 9 1 v c.length (bA c)/\Below (A (B w0)) w f
 |.inr (.inr d)=>e=.panicked [{ v:=.iface 238 (ZG #[U d]),recovered:=ZA }]/\Below (A (B w0)) w f
section
variable {w0:E}{S:Spc}{a0 a1:Option Addr}{c0 c1 mb mp:Nat}{mk md:ZB}{making:List ByteArray}{made:List Ent}{G:ByteArray->Nat}{V:ByteArray->ZB}
theorem vW (w:E)(a:Option Addr)(cnt cap:Nat)(nm:ByteArray)(h:MI w0 S mb mp (Y a0 S.n0 c0) (Y a1 S.n1 c1) w making making made G V mk md)(b:making.length=60):Calls Pg 185 #[.pointer (T (Q mb 0 Z)),ZG #[U nm,Y a cnt cap]] w λe j=>e=.panicked [{ v:=.iface 238 (ZG #[U nm]),recovered:=ZA }]/\Below (A (B w)) w j:=by
 obtain⟨ak,ck,rfl⟩:=bH h.rmk;have f:=ae ((BS w).alloc ly (N #[U nm,Y a cnt cap] 125));have g:=ae (h.aa f ly);obtain⟨hml,-,-,-,i,-,-⟩:=g.l.D;have k0:(w.alloc (N #[U nm,Y a cnt cap] 125)).cell? (Q (A (B w)) 0 Z)=T (U nm):=by simp
 rw[b] at i;clear h g b;go_enter func185,ntmps185;go_wp2_with fail;exact⟨rfl,rfl,f⟩
theorem yJ (C:Ctx w0 S a0 c0 a1 c1)(n:Nat)(HL:js w0 S mb mp (Y a0 S.n0 c0) (Y a1 S.n1 c1) n)(w:E)(a:Option Addr)(cap tg:Nat)(nm:ByteArray)(hlen:making.length+(n+1)=60)(h:MI w0 S mb mp (Y a0 S.n0 c0) (Y a1 S.n1 c1) w making making made G V mk md)(hp:PG S making made)(t:eB S making made 1)(hn:aB nm=ZD)(h0:aO made nm=Z)(h1:atL making nm=Z)(h2:atI (nm1 S.f1) S.n1 nm=T tg)(qr:SlIns w0 a (S.f1 tg).h (S.f1 tg).u):Calls Pg 185 #[.pointer (T (Q mb 0 Z)),ZG #[U nm,Y a (S.f1 tg).h cap]] w λe w'=>dK w0 S mb mp (Y a0 S.n0 c0) (Y a1 S.n1 c1) making made G V w nm e w' (oO S (n+1) making made nm tg):=by
 obtain⟨i1,hi,Hd,Hb,Hg⟩:=pU Dr;obtain⟨D,ZS,rfl⟩:=bH h.rmk;have G8:A (B w0)<=A (B w):=h.lt;have Fd:nm.size<=maxLen:=by have:=mL hn;unfold maxLen;omega
 have A0:=ae ((BS w).alloc ly (N #[U nm,Y a (S.f1 tg).h cap] 125));have kt:Hid ((w.alloc (N #[U nm,Y a (S.f1 tg).h cap] 125)).heap[A (B w)]?=T (N #[U nm,Y a (S.f1 tg).h cap] 125 (0,0))):=gM _ _;have M0:=ae (h.aa A0 ly);have CC:=ae C;have DQ:=ae HL;have HP:=ae hp;have HN:=ae hn;have H0:=ae h0;have H1:=ae h1;have H2:=ae h2;have Hf:=ae qr;have hmade:made.length<=50000:=by unfold eB at t;omega
 have Fk:=ae t;clear h C HL hp hn h0 h1 h2 qr t;obtain⟨L,hL⟩:∃L,L=making.length:=⟨_,rfl⟩
 have g:=ae hL;have hL60:L<60:=by omega
 obtain⟨ZR,-,-,m2,j,-,-⟩:=M0.l.D;obtain⟨-,p,-⟩:=(show(w.alloc (N #[U nm,Y a (S.f1 tg).h cap] 125)).cell? (Q (A (B w)) 0 Z)=T (U nm)/\(w.alloc (N #[U nm,Y a (S.f1 tg).h cap] 125)).cell? (Q (A (B w)) 0 Z)=T (U nm)/\True from⟨by simp,by simp,trivial⟩)
 rw[<-hL] at j;clear hL;have hL60i:((L:Int) == 60)=ZA:=by simp;omega
 go_enter func185,ntmps185;go_wp2_with fail;generalize World.alloc w _=W0 at A0 kt M0 m2 j ZR p ⊢;refine wp_region_held_drew (S:=λV=>V.cell? (Q mb 2 Z)=T (.map (T mp))/\V.cell? (Q mb 3 Z)=T (Y D L ZS)/\V.cell? (Q (A (B w)) 0 Z)=T (U nm)) (by kernel_rfl) ⟨m2,j,p⟩ λhS=>?_;have l:=ae hS;clear hS;iterate 12
  refine ba 0 (v:=?_) rfl rfl (by kernel_rfl) (λ_ _ _ h=>h) rfl ?_ l ?_;rotate_left
  ·(rintro wz ⟨s0,s1,s2⟩;go_simp)
   (try with_reducible rfl)
  (try simp only[Act.put,nzL])
 have MD:=ae (M0.aa (cM _ W0).drew ly);refine aN (i:=12) rfl (by kernel_rfl) λK b=>?_;refine uN rfl _ _ _ 194 rfl 241 PI mp (2*made.length+making.length) (dB G making made) rfl MD.map (by unfold maxLen;omega) nm (ZG #[J I (L:Int),.pointer Z]) rfl rfl Fd ?_;intro m th ph;have ZL:=ae (MD.mapped (cnt':=2*made.length+(making++[nm]).length) (F':=dB G (making++[nm]) made) ph ((th.congr λs=>by rw[<-yH H0.out H1.out s,<-g.out]).mono (by simp;omega)));clear th ph;have R:=ae ZL.1;have K1:Hid (KX (A (B w0)) XN w m):=(KX.q (X:=XN) (A0.trans ((cM _ W0).drew.mono A0.size)) ly G8).to ZL.2;have ZQ:Hid (m.heap[A (B w)]?=T (N #[U nm,Y a (S.f1 tg).h cap] 125 (0,0))):=(ZL.2.ab _ _ _ _ kt (by decide) (by decide) (by decide) λh=>h).trans kt;clear l m2 j p ZR ZL;obtain⟨ZR,-,-,m2,j,-,-⟩:=R.l.D;rw[<-g.out] at j;have Hc:A (B w)<A (B m):=ah ZQ.out;have p:m.cell? (Q (A (B w)) 0 Z)=T (U nm):=by simp[World.cell?,ZQ.out]
 refine b _ _ ⟨m2,j,p⟩ ?_;clear b K
 (try simp only[Act.put])
 refine wpAnyH_done (by kernel_rfl) ?_ _;clear MD M0 kt;go_wp2_with fail;have SQ:Hid (∀V:E,(∀k,k<A (B m)->T k≠(Value.slice D L ZS).ownBlock->V.heap[k]?=m.heap[k]?)->V.cell? (Q mb 3 Z)=T (Y D L ZS)/\V.cell? (Q (A (B w)) 0 Z)=T (U nm)):=λV hV=>by
  have z:T mb≠(Value.slice D L ZS).ownBlock:=λe=>by obtain⟨_,_,cs,hc⟩:=af R.rmk mb (by rw[<-g.out];exact e.symm);exact absurd (ai R.l hc) (by decide)
  have At:T (A (B w))≠(Value.slice D L ZS).ownBlock:=λe=>by obtain⟨_,_,cs,hc⟩:=af R.rmk (A (B w)) (by rw[<-g.out];exact e.symm);exact absurd (ai ZQ hc) (by decide)
  exact⟨(cq (a:=(Q mb 3 Z)) (hV mb ZR z)).trans j,(cq (a:=(Q (A (B w)) 0 Z)) (hV (A (B w)) Hc At)).trans p⟩
 have l:=ae (SQ m.drew (λk r _=>rfl));refine aH (λV=>V.cell? (Q mb 3 Z)=T (Y D L ZS)/\V.cell? (Q (A (B w)) 0 Z)=T (U nm)) 11 (by kernel_rfl) ?_;clear m2 j p;iterate 7
  first|refine aK 0 (v:=?_) rfl rfl (by kernel_rfl) (λ_ _ _ h=>h) rfl ?_ l ?_|refine aK 5 (v:=?_) rfl rfl (by kernel_rfl) (λ_ _ _ h=>h) rfl ?_ l ?_
  rotate_left
  ·(rintro wz ⟨s0,s1⟩;go_simp)
   (try with_reducible rfl)
  (try simp only[Act.put,nzL])
 refine aj (i:=7) rfl (by kernel_rfl) λK b=>?_;go_simp;have AB:=ae (((BS m).drew).alloc ly (N #[U nm] 9));have ZP:=ae (R.aa AB ly);refine b _ _ (λ_=>SQ _ (λk r _=>AB.block k r)) ?_;clear b K
 (try simp only[Act.put,nzL])
 have RK:=ae (by have h:=ZP.rmk;rw[<-g.out] at h;exact h);refine aj (i:=8) rfl (by kernel_rfl) λK b=>?_;refine aW rfl (.tmp 32) (.tmp 35) 35 rfl (A (B w0)) 9 i1 (U ⟨#[]⟩) 1 16 LL hi Hd Hb Hg rfl (by decide) (Y D L ZS) L (bA making) (by simp[Act.eval]) RK.out (Q (A (B m)) 0 Z) 1 1 [U nm] (by simp[Act.eval]) rfl (As m.drew _ _) (by simp[Value.oneCell']) (by unfold maxLen;omega) (by omega) ZP.lt ?_;intro v' H P y Hh;have O3:=ae P;have G3:=ae y;have S3:=ae (SQ H (λk r z=>(y.block k (lj r (by simp<;>omega)) z).trans (AB.block k r)));obtain⟨g4,q,cur4,rfl,ZK⟩:=P.2.resolve_left (λh=>by omega);clear ZK;clear P y Hh;refine b _ _ (λ_=>S3) ?_;clear b K l
 (try simp only[Act.put,nzL])
 iterate 2
  refine bU 9 rfl rfl (by kernel_rfl) λK b=>?_;go_simp;refine b _ _ (λ_=>S3) ?_;clear b K
  (try simp only[Act.put,nzL])
 have M4:Hid (MI w0 S mb mp (Y a0 S.n0 c0) (Y a1 S.n1 c1) (H.setCell (Q mb 3 Z) (Y (T (Q g4 0 Z)) (L+1) q)) (making++[nm]) (making++[nm]) made G V (Y (T (Q g4 0 Z)) (L+1) q) md/\KX (A (B w0)) XN m (H.setCell (Q mb 3 Z) (Y (T (Q g4 0 Z)) (L+1) q))):=by have h4:=ZP.mked (w':=H) (nk':=(making++[nm]).length) (ks':=bA (making++[nm])) (v:=Y (T (Q g4 0 Z)) (L+1) q) (by rw[<-g.out];exact G3) (by rw[eL,AT,<-g.out];simpa[bA] using O3.out);exact⟨h4.1,(KX.q (X:=XN) AB ly R.lt).to h4.2⟩
 have s3:=S3.1;have Bk:mb<A (B H):=lj ZR (nL (by simp<;>omega) G3.size);have Fm:H.frozen? (Q mb 3 Z)=ZA:=by
  have z:T mb≠(Value.slice D L ZS).ownBlock:=λe=>by obtain⟨_,_,cs,hc⟩:=af RK mb e.symm;exact absurd (ai ZP.l hc) (by decide)
  exact(KM (a:=(Q mb 3 Z)) (G3.block mb (ah ZP.l) z)).trans (ZP.l.D.2.2.2.2.2.2 3)
 refine aj (i:=11) rfl (by kernel_rfl) λK b=>?_;go_simp;refine b _ _ (λh=>absurd rfl h) ?_;clear b K s3 Fm
 (try simp only[Act.put,nzL])
 refine be (by kernel_rfl) ?_ _;have ZI:=ae M4.1;have K4:=ae (K1.to M4.2);have bt:=ae ((M4.2.ab _ _ _ _ ZQ (by decide) (by decide) (by decide) λh=>h).trans ZQ);clear M4 RK ZP AB S3 O3 G3 SQ K1 R Bk;generalize World.setCell H _ _=ZM at ZI K4 bt ⊢;have hwl4:A (B w)<A (B ZM):=ah bt.out;have p:ZM.cell? (Q (A (B w)) 0 Z)=T (U nm):=by simp[World.cell?,bt.out]
 have k1:ZM.cell? (Q (A (B w)) 1 Z)=T (Y a (S.f1 tg).h cap):=by simp[World.cell?,bt.out]
 obtain⟨W5,ZO⟩:∃W:E,ZM.alloc (N #[U nm,J I 3,J I 0,U ⟨#[]⟩,Y a (S.f1 tg).h cap,Y Z 0 0,Y Z 0 0,J I 0] 137)=W:=⟨_,rfl⟩
 obtain⟨A5,-,hz5⟩:=nb1 ZO;have O:=ae ZO;clear ZO;have sm:A (B w0)<=A (B ZM):=ZI.lt
 have U5:Hid (EU w0 S W5 (A (B ZM)) nm tg G [] (Y Z 0 0) made V):=by rw[<-O.out];exact⟨⟨a,cap,gM _ _,Hf⟩,sm,⟨rfl,.inl ⟨rfl,rfl⟩⟩,λx hx=>by
  obtain⟨act,GS,_⟩:=(ZI.W x hx).ab;have:=ah GS
  omega,λ_ _ k r=>(by cases r),λ_ hl=>absurd hl nj⟩
 have M5:=ae (ZI.aa A5 ly);have DS:Hid (eB S (making++[nm]) made 201):=by have h1:=fK (bc H2).1 (bc H2).2 H0 H1;have h2:=Fk.out;unfold eB at h2 ⊢;show _<=_;omega
 go_wp2_with fail;clear p k1;rw[O.out];clear O;obtain⟨eb,ld⟩:∃eb,eb=A (B ZM):=⟨_,rfl⟩
 rw[<-ld] at U5 ⊢;have HEB:=ae ld;have ur:A (B w)<=eb:=by omega
 clear ld;refine(Du CC n DQ made G V _ md W5 eb tg nm (by simp;omega) M5 (gS HP H0) DS (bc H2).1 U5).mono ?_;intro e M o;obtain⟨R1,aq⟩:∃R1,R1=bR S (aP S n (making++[nm])) tg 201 made [] []:=⟨_,rfl⟩
 have HT:Hid (oO S (n+1) making made nm tg=gR nm tg R1):=by rw[aq];rfl
 rw[<-aq] at o;have Ha:=ae aq;clear aq;have K5:Hid (KX (A (B w0)) XN w W5):=K4.to (KX.q (X:=XN) A5 ly sm);rcases R1 with ⟨mv,x⟩|c|d
 ·obtain⟨rfl,G1,V1,mk1,DE,v1,la,n8,n7,n6,ro,ex⟩:=o;have GD:=ae (gu CC.ok (bc H2).1 (cX CC.ok n (making++[nm])) _ _ _ _ _ _ (gS HP H0) (gL S made) rfl Ha.symm);have M6:=ae la;have E6:=ae n8;have F6:=ae n7;have V6:=ae n6;have X6:=ae ro;have K6:Hid (KX (A (B w0)) XN w M):=K5.trans ex (λi hi h=>by have e2:i=eb:=h;omega);have hz6:A (B W5)<=A (B M):=ex.aa.size;have n9:(making++[nm]).length=L+1:=by rw[eL,AT,<-g.out]
  have ZJ:=la.rmk;rw[n9] at ZJ;obtain⟨ZN,f,cur7,rfl,ZK⟩:=ZJ.2.resolve_left (λh=>by omega);have hcap7:L+1<=f:=ZK.2.2.1;have R6:=ae (ownsRow_pop (n:=L) (xs:=bA making) (last:=[U nm]) (by rw[bA,MP,Nat.mul_one];exact g.symm) (by simpa[bA] using ZJ));clear la n8 n7 n6 ro ex ZK ZJ n9;obtain⟨hml6,-,-,-,j,-,mf⟩:=M6.l.D;have He:=mf 3;clear mf;go_wp2_with fail;have hwr:IntKind.i64.wrap (L:Int)=(L:Int):=wrapM (by omega) (by omega);have hI0:(0:Int)<=(L:Int):=by omega
  have hI1:(L:Int)<=(f:Int):=by omega
  refine aH (λV=>V.cell? (Q mb 3 Z)=T (Y (T (Q ZN 0 Z)) (L+1) f)) 14 (by kernel_rfl) ?_;have l:Hid (M.drew.cell? (Q mb 3 Z)=T (Y (T (Q ZN 0 Z)) (L+1) f)):=j;iterate 10
   refine aK 0 (v:=?_) rfl rfl (by kernel_rfl) (λ_ _ _ h=>h) rfl ?_ l ?_;rotate_left
   ·(intro wz s0;go_simp)
    (try with_reducible rfl)
   (try simp only[Act.put,nzL])
  refine fu (i:=10) (v:=J I (L:Int)) rfl (by kernel_rfl) (by kernel_rfl) (by kernel_rfl) (by kernel_rfl) (λ_ _ _ h=>h) rfl ?_ l ?_;{intro wz s0;go_simp}
  (try simp only[Act.put,nzL])
  refine fu (i:=11) (v:=Y (T (Q ZN 0 Z)) L f) rfl (by kernel_rfl) (by kernel_rfl) (by kernel_rfl) (by kernel_rfl) (λ_ _ _ h=>h) rfl ?_ l ?_;{intro wz s0;go_simp}
  (try simp only[Act.put,nzL])
  iterate 2
   refine bU 12 rfl rfl (by kernel_rfl) λK b=>?_;go_simp;refine b _ _ (λ_=>l) ?_;clear b K
   (try simp only[Act.put,nzL])
  have M7:=ae (M6.mked (w':=M) (nk':=making.length) (ks':=bA making) (v:=Y (T (Q ZN 0 Z)) L f) (World.grownBy.refl _ _) (by rw[<-g.out];exact R6));refine aj (i:=14) rfl (by kernel_rfl) λK b=>?_;go_simp;refine b _ _ (λh=>absurd rfl h) ?_;clear b K l j He
  (try simp only[Act.put])
  refine be (by kernel_rfl) ?_ _;have D7:Hid (Below (M.setCell (Q mb 3 Z) (Y (T (Q ZN 0 Z)) L f)).heap.size (M.setCell (Q mb 3 Z) (Y (T (Q ZN 0 Z)) L f)) (M.setCell (Q mb 3 Z) (Y (T (Q ZN 0 Z)) L f)).drew):=br.drew;go_wp2_with fail;go_ret;rw[HT.out];have M8:=M7.1.aa D7.out ly;have K8:=M7.2.to (KX.q (X:=XN) D7 ly M7.1.lt);obtain⟨g1,-,-,-,-,g6⟩:=GD.out;exact⟨mv,making++[nm],G1,V1,_,DE,v1,eb,rfl,.inr rfl,rfl,M8,E6.kx K8 (λh=>h) (λ_ _ h=>h),rfl,(iW g1).2,(iW g1).1,g6,F6,ur,λk r=>nL (by omega) (V6 k r),X6.mono (by omega),K6.to K8⟩
 {obtain⟨u,rfl,g1,g2⟩:=o;go_wp2_with fail;rw[HT.out];exact⟨rfl,u,rfl,g1,K5.aa.trans g2⟩};{obtain⟨rfl,g2⟩:=o;go_wp2_with fail;rw[HT.out];exact⟨rfl,rfl,K5.aa.trans g2⟩}
end
theorem gT (g:Nat->ByteArray)(n:Nat)(t:ByteArray):aG g n t=(atI g n t).isSome:=by unfold aG atI;rw[L9,List.find?_isSome,QN]
theorem Au{g:Nat->ByteArray}{n i j:Nat}{t:ByteArray}(o:aL g n=ZD)(l:atI g n t=T j)(hi:i<=n)(h1:∀m,m<i->aJ (g m) t=ZD)(h2:∀m,i<=m->m<n->aJ (g m) t=ZA):i=j:=by have f:=iU o hi h1 h2;rw[gT,l,Option.isSome_some] at f;have b:=f.symm;rw[nD,p6] at b;have h:=bc l;exact asc_one o b.1 h.1 b.2 (by rw[h.2];simp)
section
variable {w0:E}{S:Spc}{a0 a1:Option Addr}{c0 c1 mb mp:Nat}{mk md:ZB}{making:List ByteArray}{made:List Ent}{G:ByteArray->Nat}{V:ByteArray->ZB}
theorem rV{b:E}(h:MI w0 S mb mp s0 s1 w making making made G V mk md)(j:PG S making made)(o:aO made nm=Z)(hb:Below (A (B w)) w b)(kd:Int)(g:kd≠3)(tx:ByteArray):dK w0 S mb mp s0 s1 making made G V w nm (ZF (.pointer (T (Q (A (B b)) 0 Z)))) (b.alloc (N #[U nm,J I kd,J I 0,U tx,Y Z 0 0,Y Z 0 0,Y Z 0 0,J I 0] 137)) (dV made ⟨nm,kd,0,tx,0,[]⟩):=by
 have h1:=h.aa hb ly;have f:=(BS b).alloc ly (N #[U nm,J I kd,J I 0,U tx,Y Z 0 0,Y Z 0 0,Y Z 0 0,J I 0] 137);refine⟨made,making,G,V,mk,md,Y Z 0 0,A (B b),rfl,.inl rfl,rfl,h1.aa f ly,⟨⟨Y Z 0 0,gM _ _,?_⟩,h1.lt,⟨rfl,.inl ⟨rfl,rfl⟩⟩⟩,rfl,dx o,j,λl m=>absurd m nj,λy n=>?_,hb.size,λk g=>(by cases g),Ext.refl _ _ _ _,(KX.q (X:=XN) hb ly h.lt).to (KX.q f ly h1.lt)⟩;{rw[nA,eT g]};{obtain⟨act,i,_⟩:=(h1.W y n).ab;have:=ah i;omega}
theorem Av (C:Ctx w0 S a0 c0 a1 c1)(w:E)(nm:ByteArray)(i:Nat)(h:MI w0 S mb mp (Y a0 S.n0 c0) (Y a1 S.n1 c1) w making making made G V mk md)(p:PG S making made)(s:aO made nm=Z)(h2:atI (nm0 S.f0) S.n0 nm=T i):Calls Pg 161 #[.pointer (T (Q mb 0 Z)),U nm] w λe ZQ=>dK w0 S mb mp (Y a0 S.n0 c0) (Y a1 S.n1 c1) making made G V w nm e ZQ (dV made ⟨nm,1,0,(S.f0 i).H,0,[]⟩):=by
 obtain⟨g,m0,x,-⟩:=h.l.D;have l:=ae h;have D:=ae p;have ZS:=ae s;have z:=ae h2;have o:=ae C;have r:aG (nm0 S.f0) S.n0 nm=ZD:=by rw[gT,h2];rfl
 have q:i<S.n0:=(bc h2).1;have hsm:=C.ok.av;obtain⟨bs,os,rfl,f⟩:=C.src.resolve_left (by omega);have b:=ae f;clear h p s h2 C f;go_enter func161,ntmps161;go_wp2_with fail;refine(eF _ S.n0 c0 a1 S.n1 c1 S.f0 nm w (by omega) (o.src.aa l.ak ly) o.ok.asc0).mono ?_;rintro e w1 ⟨j,rfl,u,t,y,m⟩;obtain rfl:j=i:=Au o.ok.asc0 z u t y;have ZR:=ae m;have n:=ae (l.aa m ly);obtain⟨q0,q1⟩:=(b.aa n.ak ly).2 j q;have hbs:=(b.aa n.ak ly).1;clear m t y u m0 x g;obtain⟨g,m0,x,-⟩:=n.l.D;rw[r];have hI:(j:Int)<S.n0:=by omega
 go_wp2_with fail;go_ret;exact rV l D ZS ZR 1 (by decide) _
theorem yK (C:Ctx w0 S a0 c0 a1 c1)(w:E)(nm:ByteArray)(h:MI w0 S mb mp (Y a0 S.n0 c0) (Y a1 S.n1 c1) w making making made G V mk md)(r:PG S making made)(x:aO made nm=Z)(h2:atI (nm0 S.f0) S.n0 nm=Z)(t:atI (nm1 S.f1) S.n1 nm=Z):Calls Pg 161 #[.pointer (T (Q mb 0 Z)),U nm] w λe D=>dK w0 S mb mp (Y a0 S.n0 c0) (Y a1 S.n1 c1) making made G V w nm e D (dV made ⟨nm,2,0,⟨#[]⟩,0,[]⟩):=by
 obtain⟨f,m0,p,-⟩:=h.l.D;have m:=ae h;have y:=ae r;have z:=ae x;have g:=ae C;have u:aG (nm0 S.f0) S.n0 nm=ZA:=by rw[gT,h2];rfl
 have l:aG (nm1 S.f1) S.n1 nm=ZA:=by rw[gT,t];rfl
 have hsm:=C.ok.av;clear h r x h2 t C;go_enter func161,ntmps161;go_wp2_with fail;refine(eF _ S.n0 c0 a1 S.n1 c1 S.f0 nm w (by omega) (g.src.aa m.ak ly) g.ok.asc0).mono ?_;rintro e ZS ⟨j,rfl,o,n,i,b⟩;have q:=ae b;have s:=ae (m.aa b ly);clear b n i o m0 p f;obtain⟨f,m0,p,-⟩:=s.l.D;rw[u];go_wp2_with fail;refine(fE a0 S.n0 c0 _ S.n1 c1 S.f1 nm ZS (by omega) (g.w.aa s.ak ly) g.ok.asc1).mono ?_;rintro e w2 ⟨j2,rfl,o,n,i,b⟩;have ZR:=ae (q.trans (b.mono q.size));clear b n i o m0 p f;rw[l];go_wp2_with fail;go_ret;exact rV m y z ZR 2 (by decide) _
theorem Aw (C:Ctx w0 S a0 c0 a1 c1)(n:Nat)(HL:∀m,n=m+1->js w0 S mb mp (Y a0 S.n0 c0) (Y a1 S.n1 c1) m)(w:E)(nm:ByteArray)(tg:Nat)(bt:making.length+n=60)(h:MI w0 S mb mp (Y a0 S.n0 c0) (Y a1 S.n1 c1) w making making made G V mk md)(hp:PG S making made)(t:eB S making made 1)(hn:aB nm=ZD)(h0:aO made nm=Z)(h1:atL making nm=Z)(h2:atI (nm0 S.f0) S.n0 nm=Z)(ZS:atI (nm1 S.f1) S.n1 nm=T tg):Calls Pg 161 #[.pointer (T (Q mb 0 Z)),U nm] w λe o=>dK w0 S mb mp (Y a0 S.n0 c0) (Y a1 S.n1 c1) making made G V w nm e o (oO S n making made nm tg):=by
 obtain⟨z,m0,ZN,-⟩:=h.l.D;have ZJ:=ae h;have ZP:=ae C;have H3:=ae ZS;have n6:aG (nm0 S.f0) S.n0 nm=ZA:=by rw[gT,h2];rfl
 have ex:aG (nm1 S.f1) S.n1 nm=ZD:=by rw[gT,ZS];rfl
 have W:tg<S.n1:=(bc ZS).1;have la:(S.f1 tg).e=nm:=(bc ZS).2;have hsm:=C.ok.av;obtain⟨ZO,os,rfl,ZQ⟩:=C.w.resolve_left (by omega);have l:=ae ZQ;have HX:Hid (∀(g:E) (a:Option Addr) (cap:Nat),Below (A (B w)) w g->SlIns w0 a (S.f1 tg).h (S.f1 tg).u->Calls Pg 185 #[.pointer (T (Q mb 0 Z)),ZG #[U nm,Y a (S.f1 tg).h cap]] g λe o=>dK w0 S mb mp (Y a0 S.n0 c0) (Y (T (Q ZO os Z)) S.n1 c1) making made G V w nm e o (oO S n making made nm tg)):=by
  intro g a cap hb y;have hw:∀e o res,dK w0 S mb mp (Y a0 S.n0 c0) (Y (T (Q ZO os Z)) S.n1 c1) making made G V g nm e o res->dK w0 S mb mp (Y a0 S.n0 c0) (Y (T (Q ZO os Z)) S.n1 c1) making made G V w nm e o res:=by
   intro e o res r;have ZI:Below (A (B w0)) w g:=hb.mono h.lt;rcases res with ⟨L,x⟩|c|d;{obtain⟨s,mm,G',V',ZK,ZL,v',eb,f,i,H,q4,q5,q6,q7,q8,q9,ph,mv,n8,ld,n9⟩:=r;exact⟨s,mm,G',V',ZK,ZL,v',eb,f,i,H,q4,q5,q6,q7,q8,q9,ph,nL hb.size mv,λk hk=>nL hb.size (n8 k hk),ld.mono hb.size,(KX.q (X:=XN) hb ly h.lt).to n9⟩};{obtain⟨u,f,i,H⟩:=r;exact⟨u,f,i,ZI.trans H⟩};{obtain⟨f,H⟩:=r;exact⟨f,ZI.trans H⟩}
  cases n with
  |zero =>refine(vW g a _ cap nm (h.aa hb ly) (by omega)).mono ?_;rintro e o ⟨f,i⟩;exact hw _ _ _ ⟨f,i.mono (nL h.lt hb.size)⟩
  |succ m =>exact(yJ C m (HL m rfl) g a cap tg nm bt (h.aa hb ly) hp t hn h0 h1 ZS y).mono λe o q=>hw _ _ _ q
 obtain⟨R,hR⟩:∃R,R=oO S n making made nm tg:=⟨_,rfl⟩
 rw[<-hR] at HX ⊢;clear h hp h0 h1 h2 ZS C ZQ t HL hn hR;go_enter func161,ntmps161;go_wp2_with fail;refine(eF _ S.n0 c0 _ S.n1 c1 S.f0 nm w (by omega) (ZP.src.aa ZJ.ak ly) ZP.ok.asc0).mono ?_;rintro e w1 ⟨j,rfl,M,K,O,ZR⟩;have B1:=ae ZR;have M1:=ae (ZJ.aa ZR ly);clear ZR K O M m0 ZN z;obtain⟨z,m0,ZN,-⟩:=M1.l.D;rw[n6];go_wp2_with fail;refine(fE a0 S.n0 c0 _ S.n1 c1 S.f1 nm w1 (by omega) (ZP.w.aa M1.ak ly) ZP.ok.asc1).mono ?_;rintro e g ⟨D,rfl,M,K,O,ZR⟩;obtain rfl:D=tg:=Au ZP.ok.asc1 H3 M K O;have B2:=ae (B1.trans (ZR.mono B1.size));have P:=ae (ZJ.aa B2 ly);clear ZR K O M m0 ZN z;obtain⟨z,m0,ZN,-⟩:=P.l.D;obtain⟨q0,aa,ca,f,-⟩:=(l.aa P.ak ly).2 D W;obtain⟨-,aa',ca',ZM,y⟩:=l.2 D W;have aq:=l.1;have e1:=(P.ak.cell (p:=(Q ZO (os+D*2+1) Z)) aq).trans ZM;rw[f] at e1;simp only[KJ,KK,PJ] at e1;obtain⟨rfl,rfl⟩:=e1;have fd:=ae y;have hbs:=(l.aa P.ak ly).1;rw[la] at q0;clear ZM y;rw[ex];have hI:(D:Int)<S.n1:=by omega
 go_wp2_with fail;refine(HX g aa ca B2 fd).mono ?_;intro e w3 b;rcases R with ⟨L,x⟩|c|d;{have n7:=ae b;obtain⟨s,mm,G',V',ZK,ZL,v',eb,-,-,rfl,-⟩:=b;go_wp2_with fail;go_ret;exact n7};{obtain⟨u,rfl,f,i⟩:=b;go_wp2_with fail;exact⟨rfl,u,rfl,f,i⟩};{obtain⟨rfl,i⟩:=b;go_wp2_with fail;exact⟨rfl,rfl,i⟩}
end
section
variable {w0:E}{S:Spc}{a0 a1:Option Addr}{c0 c1 mb mp:Nat}{mk md:ZB}{making:List ByteArray}{made:List Ent}{G:ByteArray->Nat}{V:ByteArray->ZB}
theorem yM{j:E}(r:A (B w0)<=A (B w))(hb:Below (A (B w)) w j):∀e m res,dK w0 S mb mp s0 s1 making made G V j nm e m res->dK w0 S mb mp s0 s1 making made G V w nm e m res:=by
 intro e m res b;have i:Below (A (B w0)) w j:=hb.mono r;rcases res with ⟨made',x⟩|c|d;{obtain⟨h,K,D,L,y,p,ZQ,H,g,l,f,ZP,ZR,C,M,ZS,ZO,t,q,o,n,s⟩:=b;exact⟨h,K,D,L,y,p,ZQ,H,g,l,f,ZP,ZR,C,M,ZS,ZO,t,nL hb.size q,λk z=>nL hb.size (o k z),n.mono hb.size,(KX.q (X:=XN) hb ly r).to s⟩};{obtain⟨u,g,l,f⟩:=b;exact⟨u,g,l,i.trans f⟩};{obtain⟨g,f⟩:=b;exact⟨g,i.trans f⟩}
theorem Dz (w:E)(nm:ByteArray)(R:Out Ent)(h:MI w0 S mb mp (Y a0 S.n0 c0) (Y a1 S.n1 c1) w making making made G V mk md)(hml60:making.length<=60)(hn:nm.size<=60)(h0:aO made nm=Z)(h1:atL making nm=Z)(j:∀g x,R=.inl (g,x)->g.length<=60000)
  (HF:∀W,Below (A (B w)) w W->Calls Pg 161 #[.pointer (T (Q mb 0 Z)),U nm] W λe ZP=>dK w0 S mb mp (Y a0 S.n0 c0) (Y a1 S.n1 c1) making made G V w nm e ZP R) :
  Calls Pg 126 #[.pointer (T (Q mb 0 Z)),U nm] w λe ZP=>uI w0 S mb mp (Y a0 S.n0 c0) (Y a1 S.n1 c1) making made G V w e ZP R:=by
 obtain⟨i1,hi,ro,qr,n7⟩:=pU Ds;have HV:=ae (show(dB G making made nm.toList).getD (ZG #[J I 0,.pointer Z])=ZG #[J I 0,.pointer Z] by rw[gX h0,h1];rfl);have fd:=ae (show(dB G making made nm.toList).isSome=ZA by rw[gX h0,h1];rfl);have HM:=ae h;have la:=ae HF;have n9:=ae j;obtain⟨hl,-,-,c2,-,-,-⟩:=h.l.D;have ZK:nm.size<=maxLen:=by unfold maxLen;omega
 have hz:=oS;have B1:=ae ((BS w).alloc ly (N #[J I 0,.pointer Z] 241));clear h h0 h1 HF j;go_enter func126,ntmps126
 go_wp2_with (first
  |(at_lookup;refine iD _ rfl _ _ 194 rfl 241 PI (hz _) mp _ _ rfl HM.map nm rfl ZK _ HV ZA fd ?_)
  |fail)
 clear c2;generalize World.alloc w _=W1 at B1 ⊢;refine(la W1 B1).mono ?_;intro e w1 i;rcases R with ⟨g,x⟩|c|d
 ·obtain⟨b,mm,G1,V1,mk1,md1,v1,C,rfl,z,rfl,q,ZM,aq,ZI,P,has,bt,mv,ZL,O,ZN⟩:=i;have ld:b.length<=60000:=by have:=n9.out _ _ rfl;simp at this;omega
  have hmml:mm.length<=making.length+1:=by rcases z with rfl|rfl<;>simp
  obtain⟨ap,cp,rfl⟩:=bH q.ag;have M1:=ae q;have E1:=ae ZM;have r:=ae aq;have n6:=ae ZI;have P1:=ae P;have n8:=ae has;have F1:=ae bt;have sm:=ae ZL;have X1:=ae O;have K1:=ae ZN;have MM:=ae z;obtain⟨m,s⟩:∃m,m=b.length:=⟨_,rfl⟩
  have l:=ae s;obtain⟨ZJ,-,-,m2,-,ZQ,-⟩:=q.l.D;rw[<-s] at ZQ ld;clear q ZM aq ZI P has bt ZL O ZN z s
  go_wp2_with (first
   |(at_mapUpdate;refine yG _ rfl _ _ _ 194 rfl 241 PI mp _ _ rfl M1.map (by unfold maxLen;have:=l.out;omega) nm (ZG #[J I 0,.pointer (T (Q C 0 Z))]) rfl rfl ZK ?_;intro ZS M ZO;have H:=ae (M1.mapped ZO M);clear M ZO m2 ZQ ZJ;obtain⟨ZJ,-,-,-,-,ZQ,mf⟩:=H.1.l.D;rw[<-l.out] at ZQ;have AB:=ae ((BS ZS).alloc ly (N #[.pointer (T (Q C 0 Z))] 134));have f:=ae (H.1.aa AB ly);have RD:=ae (by have h:=f.ag;rw[<-l.out] at h;exact h))
   |(at_builtin;refine E4 _ rfl (.tmp 49) (.tmp 51) 131 rfl (A (B w0)) 134 i1 (.pointer Z) 1 8 underlying131 hi ro qr n7 rfl (by decide) (Y ap m cp) m (jr G1 b) (by simp[Act.eval]) RD.out (Q (A (B ZS)) 0 Z) 1 1 [.pointer (T (Q C 0 Z))] (by simp[Act.eval]) rfl (As ZS _ _) (by simp[Value.oneCell']) (by unfold maxLen;omega) (by omega) f.lt ?_;intro v3 w3 o p ex;have O3:=ae o;have D:=ae p;obtain⟨g4,ZR,cur4,rfl,ph⟩:=o.2.resolve_left (λh=>by omega);clear ph o p ex;have t:Hid (T mb≠(Value.slice ap m cp).ownBlock):=(λe=>by obtain⟨_,_,cs,hc⟩:=af RD mb e.symm;exact absurd (ai f.l hc) (by decide));have s4:=(cq (a:=(Q mb 4 Z)) (D.block mb (ah f.l) t)).trans f.l.D.2.2.2.2.2.1;have f4:=(KM (a:=(Q mb 4 Z)) (D.block mb (ah f.l) t)).trans (f.l.D.2.2.2.2.2.2 4);have hml3:mb<A (B w3):=lj (ah f.l) D.size)
   |fail)
  go_ret;have h5:=f.mded (w':=w3) (np':=b.length+1) (ps':=jr G1 b++[.pointer (T (Q C 0 Z))]) (v:=Y (T (Q g4 0 Z)) (m+1) ZR) (by rw[<-l.out];exact D) (by rw[<-l.out];exact O3);have L:KX (A (B w0)) XN w1 (w3.setCell (Q mb 4 Z) (Y (T (Q g4 0 Z)) (m+1) ZR)):=(H.2.to (KX.q (X:=XN) AB ly H.1.lt)).to h5.2;have K:aO b nm=Z:=NT.2 λy hy=>by intro e2;exact n6 y hy (bytes_beq e2)
  have h6:=MIg.added (x:=x) h5.1 P1 K r MM (by omega) (E1.kx L (λh=>h) (λ_ _ h=>h)) F1 n8;exact⟨_,_,_,_,(by rw[r.out,eU];rfl),h6,X1.trans (FA (n:=A (B w)) K r mv sm) ly,K1.to L⟩
 {obtain⟨u,rfl,q1,q2⟩:=i;go_wp2_with fail;exact⟨rfl,u,rfl,q1,q2⟩};{obtain⟨rfl,q2⟩:=i;go_wp2_with fail;exact⟨rfl,rfl,q2⟩}
theorem DD (C:Ctx w0 S a0 c0 a1 c1):∀n,js w0 S mb mp (Y a0 S.n0 c0) (Y a1 S.n1 c1) n:=by
 have o:∀n,(∀m,n=m+1->js w0 S mb mp (Y a0 S.n0 c0) (Y a1 S.n1 c1) m)->js w0 S mb mp (Y a0 S.n0 c0) (Y a1 S.n1 c1) n:=by
  intro n s making made G V mk md w nm p h q b hn;have g:=mL hn;have f:=gJ S n making made nm;rw[lA] at f ⊢;unfold du at f ⊢;cases h0:aO made nm with
  |some e =>refine(Dp w nm h g e h0).mono ?_;rintro r y ⟨rfl,hb⟩;exact⟨G,V,mk,md,rfl,h.aa hb ly,Ext.refl _ _ _ _,KX.q hb ly h.lt⟩
  |none =>
   cases h1:atL making nm with
   |some i =>refine(vV w nm h g (by omega) h0 i h1).mono ?_;rintro r y ⟨u,rfl,ZS,D⟩;exact⟨u,rfl,aF ZS h.lt,D.mono h.lt⟩
   |none =>
    rw[h0] at f;simp only[h1] at f;dsimp only;refine Dz w nm _ h (by omega) g h0 h1 (λl x ZR=>?_) λW z=>?_;{have:=f l x ZR;unfold eB at b;unfold fx at this;omega}
    ·refine Calls.mono ?_ λe y=>yM h.lt z e y _;have j:=h.aa z ly;unfold fj;cases h2:atI (nm0 S.f0) S.n0 nm with
     |some i=>exact Av C W nm i j q h0 h2
     |none =>
      cases h3:atI (nm1 S.f1) S.n1 nm with
      |some t=>exact Aw C n s W nm t p j q b hn h0 h1 h2 h3
      |none=>exact yK C W nm j q h0 h2 h3
 intro n;induction n with
 |zero=>exact o 0 λm e=>by omega
 |succ n ZQ=>exact o (n+1) λm e=>by cases e;exact ZQ
end
