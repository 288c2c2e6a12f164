import Derived.Test.YtcnilonhfpimnaaGreatDoorEH
import Derived.Test.YtcnilonhfpimnaaGreatDoorEO
import Derived.Test.YtcnilonhfpimnaaGreatDoorFP
import Derived.Test.YtcnilonhfpimnaaGreatDoorEJ
import Derived.WalkSmall
set_option linter.all false
set_option maxRecDepth 100000
set_option maxHeartbeats 8000000
open Go renaming Addr.mk->T,Value.slice->Y,Value.string->U,Value.int->J,Value.agg->ZJ,Obj.cells->N,IntKind.i64->I,World->E,Value->ZB,Ending.returned->ZI,World.heap->z,World.alloc->ZU,Act.put->p_
open Option renaming none->Z,some->Q
open Bool renaming false->ZA,true->ZH
open Array renaming size->B
open List renaming length->A
namespace Go.Proofs.YtcnilonhfpimnaaGreatDoor.Vp
open Tryz RowKit Ca
variable {W V:E}{xs:List Nat}{a:O_}{L:List (List UInt8)}{b:Nat}
def Du (a:O_)(n j_:Nat)(f:Nat->au)(w:E)(hn:0<n)(h9:n<=1048576)(l:SlDeed w a n f):Calls Tryz.prog 16 #[ZJ #[Y a n j_]] w λe o=>e=ZI (U (f (n - 1)).e)/\Below (B (z w)) w o:=by
 have j:=ae ((BS w).alloc ly (N #[Y a n j_] 25));rcases l with h|⟨b,off,rfl,g⟩
 {omega};have hb:=g.1;have i:=(j.O (p:=⟨b,off+(n - 1)*6,Z⟩) hb).k (g.2 (n - 1) (by omega)).1;clear g;obtain⟨m,q⟩:∃m,n=m+1:=⟨n - 1,by omega⟩
 subst q;rw[QR] at i ⊢;generalize (f m).e=t at i ⊢;have hw:IntKind.i64.wrap ((m:Int)+1 - 1)=(m:Int):=by rw[nL];omega
 go_enter func16,ntmps16;go_wp2;go_ret;exact⟨rfl,j⟩
def o8 (S:xl)(nm:F_):((bE S nm).1=[]/\5<(bE S nm).2.M)\/∃M e,SpcOk S/\aA nm=ZH/\aT S 60 [] [] nm=.inl (M,e)/\bE S nm=(M,dt e):=by
 unfold bE;split;{rename_i h;split;{rename_i b e f;exact .inr ⟨b,e,SpcOk.of h.1,h.2,f,rfl⟩};{exact .inl ⟨rfl,by show(5:Int)<6;decide⟩};{exact .inl ⟨rfl,by show(5:Int)<7;decide⟩}};{exact .inl ⟨rfl,by show(5:Int)<9;decide⟩}
def Ir{w:E}{f c:Nat}(h:w.ownsRow f 9 1 (Y a (A L) c) (A L) (L.map encStr)):SlStr w a (A L) (nmF L):=by
 by_cases hz:A L=0;{exact .inl hz}
 ·rcases h.2 with⟨b,m⟩|⟨g,j_,cur,b,hb,l,h1,h2,h3,h4⟩
  {exact absurd m hz};{simp only[IN] at b;obtain⟨rfl,-,rfl⟩:=b;refine .inr ⟨g,0,rfl,aj l,λi hi=>?_⟩;have j:=h.cells (g:=g) rfl i (encStr L[i]) (by simp[hi]);rw[gK] at j;rw[rE hi];exact j}
def Is{x:F_}:(∃i,i<A L/\(nmF L i).toList=x.toList) ↔ x.toList∈L:=by
 constructor;{rintro⟨i,hi,e⟩;rw[<-e,jM hi];exact gz hi};{intro h;obtain⟨i,hi,e⟩:=QK h;exact⟨i,hi,(jM hi).k e⟩}
def rY (a:O_)(n c:Nat)(f:B_)(x:F_)(w:E)(hn:n<=1048576)(o:SlStr w a n f):Calls Tryz.prog 9 #[Y a n c,U x] w λe r=>∃b:Bool,e=ZI (.bool b)/\(b=ZH ↔ ∃i,i<n/\(f i).toList=x.toList)/\Below (B (z w)) w r:=by
 have t:=ae o;clear o;go_enter func9,ntmps9;go_wp2_with fail;go_loopw [5] (λi wr=>∃k:Nat,k<=n/\i=J I k/\Hid (∀i,i<k->(f i).toList≠x.toList)/\Hid (Below (B (z w)) w wr)) (λi _=>n - (intOf i).toNat);case atStart=>exact⟨0,by omega,rfl,λi hi=>absurd hi (by omega),a8 _ _⟩
 case round =>
  obtain⟨k,hk,rfl,p,j⟩:=hrel;by_cases l:k<n
  ·rcases t.aa j.i ly with h|⟨sb,so,rfl,m⟩
   {omega};have e0:=m.2 k l;have hsb:=m.1;clear m;have hlt2:(k:Int)<n:=by omega
   by_cases g:(f k).toList=x.toList
   ·have q:((f k).toList == x.toList)=ZH:=by simp[g]
    go_wp2;go_ret;exact⟨ZH,rfl,⟨λ_=>⟨k,l,g⟩,λ_=>rfl⟩,j⟩
   ·have q:((f k).toList == x.toList)=ZA:=by simpa using g
    have s:=ae g;clear g;go_wp2
    exact⟨⟨k+1,by omega,by go_num,(λi hi=>by
     rcases TG.1 hi with h|rfl;{exact p i h}
     ·exact s),j⟩,by simp[intOf];omega⟩
  ·obtain rfl:k=n:=by omega
   go_wp2;go_ret;exact⟨ZA,rfl,⟨(λh=>by cases h),λ⟨i,hi,e⟩=>absurd e (p i hi)⟩,j⟩
def Fr (xs:List Nat)(W W':E):Prop:=B (z W)<=B (z W')/\∀k,k<B (z W)->k ∉ xs->W'.heap[k]?=W.heap[k]?
def Fr.k{ZN:E}(h:Fr xs W V)(g:Fr xs V ZN):Fr xs W ZN:=⟨nX h.1 g.1,λk h1 h2=>(g.2 k (lj h1 h.1) h2).k (h.2 k h1 h2)⟩
def Fr.ac{R:Nat}(h:zt R W V)(hR:R∈xs):Fr xs W V:=⟨h.size,λk h1 h2=>h.p k h1 (λe=>h2 (e ▸ hR))⟩
def Fr.set{x j:Nat}(b:x∈xs)(u:ZB):Fr xs W (W.setCell (T x j Z) u):=⟨by simp,λk _ h2=>qh W (T x j Z) u k (λe=>h2 ((show k=x from e) ▸ b))⟩
def pR (xs:List Nat)(b ZW:Nat):Prop:=∀x∈xs,x<b\/ZW<=x
def Agr.fr{f:E}(h:Agr b f W)(l:pR xs b (B (z f)))(g:Fr xs W V):Agr b f V:=
 ⟨nX h.1 g.1,λk h1 h2=>(g.2 k (lj h2 h.1) (λi=>by rcases l k i with j|j<;>omega)).k (h.2 k h1 h2)⟩
def Gd (n0 n1:Nat)(f1:Nat->Target):Prop:=n0<=250/\n1<=250/\∀i,i<n1->1<=(f1 i).h/\(f1 i).h<=200
def HSg (b:Nat)(w:E)(a0:O_)(n0:Nat)(f0:Nat->Source)(a1:O_)(n1:Nat)(f1:Nat->Target):Prop:=HSp b w a0 n0 f0 a1 n1 f1/\Gd n0 n1 f1
def QSp (lo:Nat)(xs:List Nat)(W:E)(a0:O_)(n0:Nat)(f0:Nat->Source)(a1:O_)(n1:Nat)(f1:Nat->Target):Prop:=∃(b:Nat) (f:E),lo<=b/\HSg b f a0 n0 f0 a1 n1 f1/\Agr b f W/\pR xs b (B (z f))
def QAc (lo:Nat)(xs:List Nat)(W:E)(a:O_)(n c:Nat)(f:Nat->au):Prop:=∃(b:Nat) (g:E),lo<=b/\HAc b g a n c f/\Agr b g W/\pR xs b (B (z g))
section
variable {lo b:Nat}{xs:List Nat}{W V:E}{a0 a1 a:O_}{n0 n1 n c:Nat}{f0:Nat->Source}{f1:Nat->Target}{f:Nat->au}
def QSp.fr (h:QSp lo xs W a0 n0 f0 a1 n1 f1)(g:Fr xs W V):QSp lo xs V a0 n0 f0 a1 n1 f1:=by obtain⟨b,i,j,h1,h2,f⟩:=h;exact⟨b,i,j,h1,h2.fr f g,f⟩
def QAc.fr (h:QAc lo xs W a n c f)(i:Fr xs W V):QAc lo xs V a n c f:=by obtain⟨b,j,l,h1,h2,g⟩:=h;exact⟨b,j,l,h1,h2.fr g i,g⟩
def QSp.at (h:QSp lo xs W a0 n0 f0 a1 n1 f1):HSg lo W a0 n0 f0 a1 n1 f1:=by obtain⟨b,w1,f,h1,h2,-⟩:=h;exact⟨(h1.1.agr h2).P f,h1.2⟩
def QAc.at (h:QAc lo xs W a n c f):HAc lo W a n c f:=by obtain⟨b,w1,g,h1,h2,-⟩:=h;exact(h1.agr h2).P g
def QSp.new (h:HSg b W a0 n0 f0 a1 n1 f1)(f:lo<=b)(g:pR xs b (B (z W))):QSp lo xs W a0 n0 f0 a1 n1 f1:=⟨b,W,f,h,Agr.refl _ _,g⟩
def QAc.new (h:HAc b W a n c f)(g:lo<=b)(i:pR xs b (B (z W))):QAc lo xs W a n c f:=⟨b,W,g,h,Agr.refl _ _,i⟩
end
def Gs (S:xl)(nm:F_):(bE S nm).1.length<=400:=by
 rcases o8 S nm with⟨h1,-⟩|⟨M,e,f,-,h2,b⟩
 {rw[h1];exact DW _};{rw[b];exact qG f h2}
def Gt{c:Nat}{S:xl}{nm:F_}{R:List DR}(h:DRow W b (Y a (A R) c) R)(g:R.map (·.1)=bk S (bE S nm).1):HAc b W a (A R) c (dF (bk S (bE S nm).1))/\(A R)<=400/\∀i,i<A R->FitD (dF (bk S (bE S nm).1) i)/\(dF (bk S (bE S nm).1) i).H.size<=2000/\(dF (bk S (bE S nm).1) i).h<=200/\(dF (bk S (bE S nm).1) i).f<=200:=by
 have m:A R=(bE S nm).1.length:=by have:=xT List.length g;simpa[bk] using this
 have hn:A R<=400:=by rw[m];exact Gs S nm
 have j:∀r∈R,FitD r.1/\r.1.H.size<=2000/\r.1.h<=200/\r.1.f<=200:=λr f=>Ga S nm r.1 (by rw[<-g];exact U2 f);have h1:=Ja h (λr f=>(j r f).1) (by omega);rw[g] at h1;refine⟨h1,hn,λi hi=>?_⟩;obtain⟨r,f,l⟩:=dG hi;rw[<-g,iM f];exact j r l
def crN:Array ZB:=#[U ⟨#[97]⟩,U ⟨#[98]⟩,U ⟨#[99]⟩,U ⟨#[116,48]⟩,U ⟨#[116,49]⟩,U ⟨#[116,50]⟩,U ⟨#[116,51]⟩]
def Jg:∀k,k<7->∃s:F_,crN[k]?=Q (U s)/\s.size<=5000:=λk hk=>by rcases(show k=0\/k=1\/k=2\/k=3\/k=4\/k=5\/k=6 by omega) with rfl|rfl|rfl|rfl|rfl|rfl|rfl<;>exact⟨_,rfl,by decide⟩
def DHg (w:E)(R q:Nat)(e:Ending)(b:E):Prop:=∃(a0:O_) (n0 c0:Nat) (f0:Nat->Source) (a1:O_) (n1 c1:Nat) (f1:Nat->Target),e=ZI (ZJ #[Y a0 n0 c0,Y a1 n1 c1])/\HSg (B (z w)) b a0 n0 f0 a1 n1 f1/\∃q':Nat,q'<=q/\Rd b R q'/\zt R w b
structure Cr (w:E)(R xb nb:Nat)(LS:List Source)(v0:ZB)(W:E)(q:Nat)(v1:ZB)(RT:List TR):Prop where
 x:SpX (B (z w)) xb (B (z w)+1) W v0 v1 LS RT
 g:GX RT
 gp:∀r∈RT,1<=r.1.h/\r.1.h<=200
 rd:Rd W R q
 o:zt R w W
 nm:W.heap[nb]?=Q (N crN 9 (0,0))
 lo:R<B (z w)/\(B (z w))<nb
section
variable {w W W':E}{R xb nb q q':Nat}{LS:List Source}{v0 v1:ZB}{RT:List TR}
def Cr.ac (h:Cr w R xb nb LS v0 W q v1 RT)(b:zt R W W')(hR:Rd W' R q'):Cr w R xb nb LS v0 W' q' v1 RT:=by obtain⟨f,l2⟩:=h.lo;exact⟨h.x.ac b f,h.g,h.gp,hR,h.o.k b,(b.p _ (aj h.nm) (by omega)).k h.nm,h.lo⟩
def Cr.aa (h:Cr w R xb nb LS v0 W q v1 RT)(b:Below (B (z W)) W W'):Cr w R xb nb LS v0 W' q v1 RT:=h.ac (zt.l b) (h.rd.aa b ly)
def Cr.e (h:Cr w R xb nb LS v0 W q v1 RT){k:Nat}(b:k<7):∃s:F_,W.cell? (T nb k Z)=Q (U s)/\s.size<=5000:=by obtain⟨s,h1,h2⟩:=Jg k b;have hb:=h.nm;exact⟨s,by simp[World.cell?,hb,h1],h2⟩
end
def tZ (R p:Nat)(w:E)(hR:Rd w R p)(hp:p<=20000):Calls Tryz.prog 48 #[.pointer (Q (T R 0 Z))] w λe w'=>DHg w R (p+100) e w':=by
 obtain⟨At,hj,JJ,Fk,qr⟩:=NO fw;obtain⟨JI,hi,Fd,th,JL⟩:=pj;have n9:=hR.lt;obtain⟨LS,aq⟩:∃LS:List Source,LS=[⟨⟨#[97]⟩,⟨#[65]⟩⟩,⟨⟨#[98]⟩,⟨#[66]⟩⟩,⟨⟨#[99]⟩,⟨#[67]⟩⟩]:=⟨_,rfl⟩
 have bt:A LS=3:=by rw[aq];rfl
 have C0:Hid (Cr w R (B (z w)+1+1) (B (z w)+1+1+1) LS (Y (Q (T (B (z w)+1) 0 Z)) 3 3) ((ZU (ZU (ZU w (N #[Y Z 0 0,Y Z 0 0] 29)) (N #[U ⟨#[97]⟩,U ⟨#[65]⟩,U ⟨#[98]⟩,U ⟨#[66]⟩,U ⟨#[99]⟩,U ⟨#[67]⟩] 82)) (N #[Y (Q (T (B (z w)+1) 0 Z)) 3 3,Y Z 0 0] 29)).alloc (N crN 9)) p (Y Z 0 0) []):=by
  have sm:B (z (ZU w (N #[Y Z 0 0,Y Z 0 0] 29)))=B (z w)+1:=by simp
  have ur:B (z (ZU (ZU w (N #[Y Z 0 0,Y Z 0 0] 29)) (N #[U ⟨#[97]⟩,U ⟨#[65]⟩,U ⟨#[98]⟩,U ⟨#[66]⟩,U ⟨#[99]⟩,U ⟨#[67]⟩] 82)))=B (z w)+1+1:=by simp
  have DQ:B (z (ZU (ZU (ZU w (N #[Y Z 0 0,Y Z 0 0] 29)) (N #[U ⟨#[97]⟩,U ⟨#[65]⟩,U ⟨#[98]⟩,U ⟨#[66]⟩,U ⟨#[99]⟩,U ⟨#[67]⟩] 82)) (N #[Y (Q (T (B (z w)+1) 0 Z)) 3 3,Y Z 0 0] 29)))=B (z w)+1+1+1:=by simp
  have k1:=gM w (N #[Y Z 0 0,Y Z 0 0] 29);have k2:=gM (ZU w (N #[Y Z 0 0,Y Z 0 0] 29)) (N #[U ⟨#[97]⟩,U ⟨#[65]⟩,U ⟨#[98]⟩,U ⟨#[66]⟩,U ⟨#[99]⟩,U ⟨#[67]⟩] 82);rw[sm] at k2;have BQ:=(a8 (B (z w)+1) (ZU w (N #[Y Z 0 0,Y Z 0 0] 29))).alloc (by omega) (N #[U ⟨#[97]⟩,U ⟨#[65]⟩,U ⟨#[98]⟩,U ⟨#[66]⟩,U ⟨#[99]⟩,U ⟨#[67]⟩] 82);have h:=oD (LS:=LS) (base:=B (z w)+1) (base':=B (z w)+1) ((BQ.p (B (z w)) (eL _)).k k1) (eL _) ly (by omega) (v0:=Y (Q (T (B (z w)+1) 0 Z)) 3 3) (by subst aq;exact⟨rfl,.inr ⟨B (z w)+1,3,_,rfl,p7 _,k2,p7 _,by unfold maxLen;omega,rfl,rfl⟩⟩) (dq _ _);rw[ur] at h;have BW:=(((BS w).alloc ly (N #[Y Z 0 0,Y Z 0 0] 29)).alloc (by omega) (N #[U ⟨#[97]⟩,U ⟨#[65]⟩,U ⟨#[98]⟩,U ⟨#[66]⟩,U ⟨#[99]⟩,U ⟨#[67]⟩] 82)).alloc (by omega) (N #[Y (Q (T (B (z w)+1) 0 Z)) 3 3,Y Z 0 0] 29);have kn:=gM (ZU (ZU (ZU w (N #[Y Z 0 0,Y Z 0 0] 29)) (N #[U ⟨#[97]⟩,U ⟨#[65]⟩,U ⟨#[98]⟩,U ⟨#[66]⟩,U ⟨#[99]⟩,U ⟨#[67]⟩] 82)) (N #[Y (Q (T (B (z w)+1) 0 Z)) 3 3,Y Z 0 0] 29)) (N crN 9);rw[DQ] at kn;have BZ:=BW.alloc (by omega) (N crN 9);exact⟨h.aa (br.alloc ly _) ly,λ_ h=>absurd h nj,λ_ h=>absurd h nj,hR.aa BZ ly,zt.l BZ,kn,by omega⟩
 clear hR aq;go_enter func48,ntmps48;go_wp2_with fail;rw[show(#[U ⟨#[97]⟩,U ⟨#[98]⟩,U ⟨#[99]⟩,U ⟨#[116,48]⟩,U ⟨#[116,49]⟩,U ⟨#[116,50]⟩,U ⟨#[116,51]⟩]:Array ZB)=crN from rfl];generalize World.alloc (World.alloc (World.alloc (World.alloc w _) _) _) _=W0 at C0 ⊢;obtain⟨O,c2,C1⟩:∃(O:O_) (c2:Nat),Hid (Cr w R (B (z w)+1+1) (B (z w)+1+1+1) LS (Y O (A LS) c2) W0 p (Y Z 0 0) []):=⟨Q (T (B (z w)+1) 0 Z),3,by rw[bt];exact C0⟩
 clear C0;generalize (B (z w))+1+1+1=nb at C1 ⊢;generalize (B (z w))+1+1=xb at C1 ⊢;have ex:Hid (A LS=3):=bt;clear bt;go_loopw [5] (λv wr=>∃(k q:Nat) (v1:ZB) (b:List TR),v=J I k/\k<=5/\q<=p+9*k/\Hid (A b=k)/\Hid (Cr w R xb nb LS (Y O (A LS) c2) wr q v1 b)) (λv _=>5 - (intOf v).toNat);case atStart=>exact⟨0,p,_,[],rfl,by omega,by omega,rfl,C1⟩
 case round =>
  clear C1;obtain⟨k,q,v1,b,rfl,hk,hq,HK,H⟩:=hrel;obtain⟨P,c5,rfl⟩:=aJ H.x.w.u;have hrn:A b<=5:=by have:=HK.i;omega
  by_cases hlt:k<5
  ·have hwk:IntKind.i64.wrap ((k:Int)+1)=(k:Int)+1:=by rw[nL];omega
   go_wp2_with fail;refine(bC _ _).P ?_;rintro e ZT⟨rfl,C⟩;have n:=ae (H.aa C);clear C H;have V1:Hid (VS ZT R (ZU ZT (N #[J I 1,U ⟨#[]⟩,J I 0] 102)) q (B (z ZT)) 1 [(1,[],0)] 1):=by have ZV:=(BS ZT).alloc ly (N #[J I 1,U ⟨#[]⟩,J I 0] 102);exact⟨n.rd.aa ZV ly,zt.l ZV,IR.new ZT _ ly [(1,[],0)] _ rfl 1 rfl (by omega),by simp,n.rd.lt,p7 _⟩
   go_wp2_with fail;generalize World.alloc ZT _=W1 at V1 ⊢;refine(ay R _ 4 _ V1.rd (by omega) (by omega) (by omega)).P ?_;rintro e w2⟨ZW,rfl,ph,mv,hR,ZP⟩;have V2:=ae (V1.ac ZP hR);clear hR ZP V1;have JG:IntKind.i64.wrap (1+ZW)=1+ZW:=by rw[nL];omega
   go_wp2_with fail;go_loopw [6,7] (λc6 k7 wx=>∃(j:Int) (q' g c:Nat) (L:List I3),c6=Y (Q (T g 0 Z)) (A L) c/\k7=J I j/\0<=j/\j<=4/\(A L:Int)+3*j<=13/\(q':Int)+2*j<=(q:Int)+9/\Hid (VS ZT R wx q' g c L (A L))) (λ_ k7 _=>(intOf k7).toNat);case atStart=>exact⟨1+ZW,_,_,_,_,rfl,rfl,by omega,by omega,by simp only[vF,IS];omega,by omega,V2⟩
   case round =>
    clear V2 JG ph mv;obtain⟨j,q2,g,c,L,rfl,rfl,hj0,hj4,hL,hq2,V3⟩:=hrel;by_cases hjp:0<j
    ·have hwj:IntKind.i64.wrap (j - 1)=j - 1:=by rw[nL];omega
     have hw3:IntKind.i64.wrap (3+(k:Int))=3+(k:Int):=by rw[nL];omega
     go_wp2_with fail;refine(ay R _ 4 _ V3.rd (by omega) (by omega) (by omega)).P ?_;rintro e w4⟨y,rfl,y0,y1,hR,ZP⟩;have W:=ae (V3.ac ZP hR);clear hR ZP V3;go_upto_if 30 with fail;go_cut [8] (λs8 wx=>∃op:Int,s8=J I op/\w4=wx);case first =>
      by_cases hy:y=0;{subst hy;go_wp2;go_meet;exact⟨_,rfl,rfl⟩}
      ·have hyb:(y == 0)=ZA:=by simpa using hy
       go_wp2;go_meet;exact⟨_,rfl,rfl⟩
     case rest =>
     obtain⟨op,rfl,rfl⟩:=hcut;go_wp2_with fail;refine(ay R _ (3+(k:Int)) _ W.rd (by omega) (by omega) (by omega)).P ?_;rintro e w5⟨y',rfl,la,JK,hR,ZP⟩;have ZN:=ae (W.ac ZP hR);clear hR ZP W y0 y1;obtain⟨m,rfl⟩:=p9 la;obtain⟨s,hs,JH⟩:=(n.ac ZN.o ZN.rd).e (k:=m) (by omega);have ro:(m:Int)<7:=by omega
     go_wp2_with fail;refine(bC _ _).P ?_;rintro e w6⟨rfl,C⟩;have V6:=ae (ZN.aa C);clear C ZN hs ro la JK;go_wp2_with fail;refine(bq _ _).P ?_;rintro e w7⟨rfl,C⟩;have V7:=ae (V6.aa C);clear C V6;go_wp2_with fail;refine(bq _ _).P ?_;rintro e ZS⟨rfl,C⟩;have ZO:=ae (V7.aa C);clear C V7;have X:=ae (ZO.aa ((BS ZS).alloc ly (N #[J I 1,U s,J I 0,J I op,U ⟨#[]⟩,J I 0,J I 2,U ⟨#[]⟩,J I 0] 102)));go_wp2_with (at_builtin;refine gL rfl (.tmp 31) (.tmp 43) rfl (B (z ZT)) g c L (by simp[Act.eval]) X.ir (T (B (z ZS)) 0 Z) 3 3 [(1,s.data.toList,0),(op,[],0),(2,[],0)] (by simp[Act.eval]) rfl (by simp) (eQ ZS #[J I 1,U s,J I 0,J I op,U ⟨#[]⟩,J I 0,J I 2,U ⟨#[]⟩,J I 0] _) (by simp only[vF,IS];omega) (by have:=ZO.o.size;simp;omega) ?_);intro G c1 W9 hI hG;have V9:=ae (ZO.add _ hI hG (eS JH (by simp)));clear hI hG X ZO;go_wp2;exact⟨⟨j - 1,_,_,_,_,by rw[cM];rfl,rfl,by omega,by omega,by simp only[cM,vF,IS];omega,by omega,V9⟩,by simp only[intOf];omega⟩
    ·go_wp2_with fail;have ZL:Hid (∀V:E,(∀i,i<B (z ZT)->i≠R->Q i≠(Value.slice P (A b) c5).ownBlock->V.heap[i]?=ZT.heap[i]?)->V.heap[xb]?=Q (N #[Y O (A LS) c2,Y P (A b) c5] 29 (0,0))/\V.cell? (T xb 1 Z)=Q (Y P (A b) c5)):=λV hV=>by
      have h1:=(hV xb n.x.lt (by have:=n.x.hi;omega) λe=>by
       obtain⟨Bk,n8⟩:=n.x.w.type _ e.c;have h3:=n.x.ab.c.k n8
       cases h3).k n.x.ab
      exact⟨h1,by simp[World.cell?,h1]⟩
     refine aI (λV=>V.heap[xb]?=Q (N #[Y O (A LS) c2,Y P (A b) c5] 29 (0,0))/\V.cell? (T xb 1 Z)=Q (Y P (A b) c5)) 14 (by kernel_rfl) ?_;have W:=ae (V3.aa br.drew);have ZX:=ae (ZL _ (λi hi l _=>W.o.p i hi l));clear V3;iterate 3
      refine aO 0 (v:=?_) rfl rfl (by kernel_rfl) (λ_ _ _ h=>h) rfl ?_ ZX ?_;rotate_left
      ·(rintro wz⟨s0,s1⟩;go_simp)
       (try with_reducible rfl)
      (try simp only[p_,z_])
     refine aO 5 (v:=?_) rfl rfl (by kernel_rfl) (λ_ _ _ h=>h) rfl ?_ ZX ?_;rotate_left
     ·(rintro wz⟨s0,s1⟩;go_simp)
      (try with_reducible rfl)
     (try simp only[p_,z_])
     refine ai (i:=3) rfl (by kernel_rfl) λK f=>?_;go_simp;go_at_call 54;refine(iK k (by omega) _).P ?_;rintro e w5⟨rfl,C⟩;have ZN:=ae (W.aa C);clear C ZX W;have ZX:=ae (ZL _ (λi hi l _=>ZN.o.p i hi l));refine f _ _ (λ_=>ZX) ?_;clear f K
     (try simp only[p_,z_])
     refine aO 4 (v:=?_) rfl rfl (by kernel_rfl) (λ_ _ _ h=>h) rfl ?_ ZX ?_;rotate_left
     ·(rintro wz⟨s0,s1⟩;go_simp)
      (try with_reducible rfl)
     (try simp only[p_,z_])
     generalize (⟨#[116]⟩:F_)++⟨#[dig k]⟩=tn;refine ai (i:=6) rfl (by kernel_rfl) λK f=>?_;go_simp;go_at_call 58;refine(bq _ _).P ?_;rintro e w6⟨rfl,C⟩;have V6:=ae (ZN.aa C);clear C ZX ZN;have ZX:=ae (ZL _ (λi hi l _=>V6.o.p i hi l));refine f _ _ (λ_=>ZX) ?_;clear f K
     (try simp only[p_,z_])
     have X:=ae (V6.aa ((BS w6).alloc ly (N #[J I 15,U ⟨#[]⟩,J I 0] 102)));clear ZX;have ZX:=ae (ZL _ (λi hi l _=>X.o.p i hi l));refine ai (i:=7) rfl (by kernel_rfl) λK f=>?_;go_simp;refine f _ _ (λ_=>ZX) ?_;clear f K
     (try simp only[p_,z_])
     refine ai (i:=8) rfl (by kernel_rfl) (λK f=>?_);refine aU rfl (.tmp 50) (.tmp 52) 35 rfl (B (z ZT)) 102 JI (ZJ #[J I 0,U ⟨#[]⟩,J I 0]) 3 32 QD hi Fd th JL rfl (by decide) (Y (Q (T g 0 Z)) (A L) c) (A L) (i3L L) (by simp[Act.eval]) X.ir (T (B (z w6)) 0 Z) 1 1 (i3L [(15,[],0)]) (by simp[Act.eval]) rfl (eQ w6 #[J I 15,U ⟨#[]⟩,J I 0] _) (xQ _) (by unfold maxLen;omega) (by omega) (by have:=X.o.size;omega) ?_;intro v' ZS D t _;obtain⟨G,c1,rfl⟩:∃G c1,v'=Y (Q (T G 0 Z)) (A L+1) c1:=by
      rcases D.2 with⟨_,h0⟩|⟨g',j_,Bk,hv,_⟩
      {omega};{exact⟨g',j_,hv⟩}
     have ZO:=ae (X.join (M:=[(15,[],0)]) (g':=G) (c':=c1) (by
      unfold IR;rw[rB,cM]
      exact D) t (by simp))
     clear D t X ZX;have ZX:=ae (ZL _ (λi hi l _=>ZO.o.p i hi l));refine f _ _ (λ_=>ZX) ?_;clear f K
     (try simp only[p_,z_])
     obtain⟨ZQ,ld,V9⟩:∃ZQ:List I3,A ZQ=A L+1/\Hid (VS ZT R ZS q2 G c1 ZQ (A ZQ)):=⟨L++[(15,[],0)],cM,ZO⟩
     have H8:Hid (A ZQ=A L+1):=ld;clear ZO ld;refine ai (i:=9) rfl (by kernel_rfl) λK f=>?_;go_simp;refine f _ _ (λ_=>ZX) ?_;clear f K
     (try simp only[p_,z_])
     refine ai (i:=10) rfl (by kernel_rfl) λK f=>?_;go_simp;refine f _ _ (λ_=>ZX) ?_;clear f K
     (try simp only[p_,z_])
     have ZR:=ae (V9.aa ((BS ZS).alloc ly (N #[U tn,Y (Q (T G 0 Z)) (A L+1) c1] 86)));have hxi:=n.x.hi;have Fm:=n.x.lt;have fd:=n.lo;refine ai (i:=11) rfl (by kernel_rfl) λK f=>?_;go_simp;refine f _ _ (λ_=>ZL _ (λi hi l _=>ZR.o.p i hi l)) ?_;clear f K ZX V9
     (try simp only[p_,z_])
     have XA:=ae (n.x.ac ZR.o fd.1);have NA:=ae ((ZR.o.p nb (aj n.nm) (by omega)).k n.nm);have DE:xb≠nb:=λe=>by have h1:=n.nm;rw[<-e] at h1;have h2:=n.x.ab.c.k h1;cases h2
     have hgl:=ZR.ir.lt;have Id:=ZR.o.size;have OA:Hid ((ZU ZS (N #[U tn,Y (Q (T G 0 Z)) (A L+1) c1] 86)).ownsRow (B (z w)+1) 102 3 (Y (Q (T G 0 Z)) (A L+1) c1) (A L+1) (bZ (cY ZQ) (A L+1))):=by have h:=ZR.ir;unfold IR at h;rw[qK,H8.i] at h;exact aE h (by omega)
     refine ai (i:=12) rfl (by kernel_rfl) λK f=>?_;refine aU rfl (.tmp 46) (.tmp 56) 27 rfl (B (z w)+1) 86 At (ZJ #[U ⟨#[]⟩,Y Z 0 0]) 2 40 OJ hj JJ Fk qr rfl (by decide) (Y P (A b) c5) (A b) (b.flatMap aZ) (by simp[Act.eval]) XA.w.u (T (B (z ZS)) 0 Z) 1 1 (aZ (⟨tn,A L+1,cY ZQ⟩,G,c1)) (by simp[Act.eval]) rfl (λj u hu=>df ZS _ _ _ j u hu) (by simp[aZ,Value.oneCell']) (by unfold maxLen;omega) (by omega) (by omega) ?_;intro v' w9 D t _;obtain⟨a7,c7,rfl⟩:=aJ D;have S9:=ae (ZL w9 (λi hi l GS=>(t.p i (lj hi Id) GS).k (ZR.o.p i hi l)));obtain⟨c8,b8⟩:=XA.addT (x:=⟨tn,A L+1,cY ZQ⟩) (g:=G) (c:=c1) (λr ZM e=>by have:=n.x.w.ltg r ZM;omega) OA D t;have NB:Hid ((w9.setCell (T xb 1 Z) (Y a7 (A b+1) c7)).heap[nb]?=Q (N crN 9 (0,0))):=(qh _ _ _ _ (λe=>DE e.c)).k (gw t XA.w.type NA (by decide))
     have CE:Hid (Cr w R xb nb LS (Y O (A LS) c2) (w9.setCell (T xb 1 Z) (Y a7 (A b+1) c7)) q2 (Y a7 (A b+1) c7) (b++[((⟨tn,A L+1,cY ZQ⟩,G,c1):TR)])):=⟨c8,n.g.add (r:=(⟨tn,A L+1,cY ZQ⟩,G,c1)) (by show (A L)+1<=300;omega) (λj Hx=>iI ZR.tx j (by have:=H8.i;have h2:j<A L+1:=Hx;omega)),(λr ZM=>by
      rcases p8.1 ZM with ZM|ZM;{exact n.gp r ZM}
      ·rw[j4.1 ZM];show 1<=A L+1/\(A L)+1<=200;omega),ZR.rd.low b8 (by omega),(n.o.k ZR.o).then (b8.P (BV _)),NB,fd⟩
     clear D t c8 b8 NB NA XA OA ZR;refine f _ _ (λ_=>S9) ?_;clear f K
     (try simp only[p_,z_])
     refine ai (i:=13) rfl (by kernel_rfl) λK f=>?_;go_simp;refine f _ _ (λ_=>S9) ?_;clear f K
     (try simp only[p_,z_])
     obtain⟨s7,t7⟩:=S9.i;have f7:w9.frozen? (T xb 1 Z)=ZA:=by simp[World.frozen?,s7]
     have l7:=aj s7;clear s7;refine ai (i:=14) rfl (by kernel_rfl) λK f=>?_;go_simp;refine f _ _ (λh=>absurd rfl h) ?_;clear f K
     (try simp only[p_,z_])
     refine ba (by kernel_rfl) ?_ _;go_wp2;exact⟨⟨k+1,q2,_,_,by go_num,by omega,by omega,(by show(b++_).length=k+1;rw[cM,HK.i];rfl),CE⟩,by simp[intOf];omega⟩
  ·obtain rfl:k=5:=by omega
   have kr:=H.x.res;have r0:wr.cell? (T (B (z w)) 0 Z)=Q (Y Z 0 0):=by simp[World.cell?,kr]
   have r1:wr.cell? (T (B (z w)) 1 Z)=Q (Y Z 0 0):=by simp[World.cell?,kr]
   have f0:wr.frozen? (T (B (z w)) 0 Z)=ZA:=by simp[World.frozen?,kr]
   have f1:wr.frozen? (T (B (z w)) 1 Z)=ZA:=by simp[World.frozen?,kr]
   have l0:=aj kr;clear kr;obtain⟨kc0,kc1⟩:=H.x.cells;have Fm:=H.x.lt;have BB:=ae (((a8 (B (z w)) wr).setCell (p:=(T (B (z w)) 0 Z)) ly (Y O (A LS) c2)).setCell (p:=(T (B (z w)) 1 Z)) ly (Y P (A b) c5));have HE:=ae ((H.x.fin rfl rfl (by have:=ex.i;omega) (by omega) H.g (Y O (A LS) c2) (Y P (A b) c5)).P (BV (B (z w))))
   have GE:Hid (Gd (A LS) (A b) (aW (b.map (·.1)))):=⟨by have:=ex.i;omega,by omega,λi hi=>by
    have e:aW (b.map (·.1)) i=b[i].1:=by simp[aW,hi]
    rw[e]
    exact H.gp _ (gz hi)⟩
   have RE:=ae (H.rd.low BB n9);have OE:=ae (H.o.then BB);go_wp2;exact bp (v:=ZJ #[Y O (A LS) c2,Y P (A b) c5]) (by simp[results,results48,go_sem,r0,r1]) rfl ⟨_,_,_,_,_,_,_,_,rfl,⟨HE,GE⟩,_,by omega,RE,OE⟩
