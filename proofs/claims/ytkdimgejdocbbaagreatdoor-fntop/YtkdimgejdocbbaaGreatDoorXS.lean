import Derived.Test.YtkdimgejdocbbaaGreatDoorXQ
import Derived.Test.YtkdimgejdocbbaaGreatDoorXR
import Derived.Test.YtkdimgejdocbbaaGreatDoorZW
set_option maxRecDepth 100000
set_option maxHeartbeats 4000000
open Go.Addr renaming mk->J
open Go.Value renaming slice->Y,string->U,int->N,bool->QA,agg->QE
open Option renaming none->Z,some->Q
open Go.Obj renaming cells->T
open Go.IntKind renaming i64->I
open Go renaming World->E
open Bool renaming false->D,true->QC
open Go.Ending renaming returned->QD
namespace Go.Proofs.YtkdimgejdocbbaaGreatDoor.Vp
open RowKit Go.Sort
theorem rj (a:Option Addr)(n g:Nat)(f:Nat->aj)(w:E)(hn:(n:Int)<=1048576)(hv:SlDeed w a n f)(y:∀ i,i<n->cY (f i))(QM:∀ i,i<n->gV (f i)):Calls Tryz.prog 32 #[QE #[Y a n g]] w fun e w'=>∃ b off m c:Nat,e=QD (Y (Q (J b off Z)) m c)/\m=(iW f n).length/\RowStr w' b off m (nmF (iW f n))/\Below w.heap.size w w':=by
 have HV:=ae hv;have s:=ae y;have HZ:=ae QM;clear hv y QM;have z:=ae (((Qs w).alloc lr (T #[Y a n g] 50)).alloc (by simp) (T #[] 9));have QJ:((w.alloc (T #[Y a n g] 50)).alloc (T #[] 9)).cell? (J w.heap.size 0 Z)=Q (Y a n g):=by simp
 have QO:=ae (show RowStr ((w.alloc (T #[Y a n g] 50)).alloc (T #[] 9)) (w.heap.size+1) 0 0 (nmF []) from⟨by simp,fun i hi=>absurd hi (CS _)⟩);obtain⟨QK,V⟩:∃ QK,QK=iW f n:=⟨_,rfl⟩
 rw[<-V];have H:=ae (show QK=if aX f n=QC then dv f n else [] from V);clear V;go_enter Tryz.func32,Tryz.ntmps32;go_wp2_with fail;generalize (w.alloc (T #[Y a n g] 50)).alloc (T #[] 9)=W at z QJ QO ⊢;have hz:w.heap.size<W.heap.size:=by have:=QO.1;omega
 refine(Af a n g f _ hn (HV.below z lr) s HZ).mono ?_;rintro e X ⟨rfl,d⟩;have t:=ae (z.trans (d.mono z.size));have E1:=ae (QO.below d lr);have k1:=(d.cell (p:=(J w.heap.size 0 Z)) hz).trans QJ;have R:w.heap.size<X.heap.size:=ll hz d.size;clear d z QO QJ hz;have HO:=ae (fun h:aX f n=QC=>(⟨dU h,gP h⟩:(1<=n/\n<=400/\aJ (bc f) n=-1)/\∀ p,p<n->(f p).linksN<=200));generalize aX f n=r at H HO ⊢;cases r with
 | false =>obtain rfl:QK=[]:=H.out;go_wp2;go_ret;exact⟨w.heap.size+1,0,0,0,rfl,rfl,E1,t⟩
 | true =>
  obtain rfl:QK=dv f n:=H.out;obtain⟨⟨hn1,hn4,-⟩,hl⟩:=HO.out rfl;have QN:=ae hl;clear hl;clear H HO s;obtain⟨b,off,rfl,QQ⟩:=HV.resolve_left (by omega);have HR:=ae QQ;clear HV QQ;go_wp2;go_loopw [3,4] (fun v i wr=>∃ (k C o m B:Nat),k<=n/\i=N I k/\v=Y (Q (J C o Z)) m B/\Hid (m=(dv f k).length)/\m<=B/\Hid (RowStr wr C o m (nmF (dv f k)))/\Hid (Below X.heap.size X wr)) (fun _ i _=>n - (intOf i).toNat);case atStart=>exact⟨0,w.heap.size+1,0,0,0,by omega,rfl,rfl,rfl,by omega,E1,eI _ _⟩
  case round =>
   obtain⟨k,C,o,m,B,hk,rfl,rfl,s,hmc,HK,x⟩:=hrel;have k2:=(x.cell (p:=(J w.heap.size 0 Z)) R).trans k1;by_cases M:k<n
   ·have hm0:m<=k*201:=by have h1:=s.out;have h2:=pN (f:=f) (k:=k) (fun p hp=>QN p (by omega));omega
    have hm:(m:Int)<=1048576:=by omega
    have hlk:=QN.out k M;have HS:=ae (show dv f (k+1)=iV (da (dv f k) (f k).name.toList) (f k).links (f k).linksN from rfl);obtain⟨p0,p1,p2,p3,⟨a0,cap0,p4,q4⟩,⟨a1,cap1,p5,q5⟩⟩:=(HR.below (t.trans (x.mono t.size)) lr).2 k M;clear q4 p4 p1 p2 p3;have Q5:=ae q5;clear q5;have bt:=(HR.below (t.trans (x.mono t.size)) lr).1;have P5:=ae p5;clear p5;go_wp2_with (go_at_call 108;refine(pM C o m B (dv f k) (f k).name _ s hm (by omega) HK).mono ?_;rintro e w2 ⟨b2,QG,m2,c2,rfl,A,fd,O,d⟩;have QH:=ae A;have R2:=ae O;have D2:=ae d;have B2:=ae (x.trans (d.mono x.size));clear A O d);have A:m2<=k*201+1:=by have h1:=s.out;have h2:=QH.out;have h3:=mZ (dv f k) (f k).name.toList;omega
    have c2k:=fd;go_loopw [3,5] (fun v i w3=>∃ (j QP l q c3:Nat),j<=(f k).linksN/\i=N I j/\v=Y (Q (J QP l Z)) q c3/\Hid (q=(iV (da (dv f k) (f k).name.toList) (f k).links j).length)/\q<=c3/\Hid (RowStr w3 QP l q (nmF (iV (da (dv f k) (f k).name.toList) (f k).links j)))/\Hid (Below w2.heap.size w2 w3)) (fun _ i _=>(f k).linksN - (intOf i).toNat);case atStart=>exact⟨0,b2,QG,m2,c2,by omega,rfl,rfl,QH,by omega,R2,eI _ _⟩
    case round =>
     obtain⟨j,QP,l,q,c3,hj,rfl,rfl,G,hmc3,QL,u⟩:=hrel;have D3:=ae (D2.trans (u.mono D2.size));have B3:=ae (B2.trans (u.mono B2.size));have k3:=(B3.cell (p:=(J w.heap.size 0 Z)) R).trans k1;have p6:=(D3.cell (p:=(J b (off+k*6+5) Z)) bt).trans P5;have Q6:=ae (Q5.below D3 lr);have aq:(q:Int)<=1048576:=by have h1:=G.out;have h2:=rL (da (dv f k) (f k).name.toList) (f k).links j;have h3:=QH.out;omega
     by_cases ex:j<(f k).linksN
     ·obtain⟨b4,off4,rfl,K⟩:=Q6.resolve_left (by omega)
      obtain⟨r0,r1,r2,r3⟩:=K.2 j ex;clear r1 r2 r3 K;go_wp2_with (go_at_call 108;refine(pM QP l q c3 _ ((f k).links j).name _ G aq (by omega) QL).mono ?_;rintro e w4 ⟨b5,S,m5,c5,rfl,L,hc5,P,d⟩;have H5:=ae L;have R5:=ae P;have B5:=ae (u.trans (d.mono u.size));clear L P d);exact⟨⟨j+1,b5,S,m5,c5,by omega,by go_num,rfl,H5,by omega,R5,B5⟩,by simp[intOf];omega⟩
     ·obtain rfl:j=(f k).linksN:=by omega
      go_wp2;exact⟨⟨k+1,QP,l,q,c3,by omega,by go_num,rfl,by rw[HS.out];exact G,by omega,by rw[HS.out];exact QL,B3⟩,by simp[intOf];omega⟩
   ·obtain rfl:k=n:=by omega
    go_wp2;go_ret;exact⟨C,o,m,B,rfl,s,HK,t.trans (x.mono t.size)⟩
end Go.Proofs.YtkdimgejdocbbaaGreatDoor.Vp
namespace Go.Proofs.YtkdimgejdocbbaaGreatDoor.Vp
open RowKit Ca
structure FitD (x:aj):Prop where
 nm:x.name.size<=5000
 tx:x.text.size<=5000
 an:x.actN<=300
 asz:∀ j,j<x.actN->(x.act j).s.size<=5000
 ln:x.linksN<=300
 lsz:∀ j,j<x.linksN->(x.links j).name.size<=5000
theorem FitD.fits {x:aj}(h:FitD x):cY x:=⟨by have:=h.an;omega,by have:=h.ln;omega⟩
theorem FitD.sized {x:aj}(h:FitD x):gV x:=by
 have h1:=h.nm;have h2:=h.tx;have h3:=h.an;have h5:=h.ln;refine⟨by unfold maxLen;omega,by unfold maxLen;omega,⟨by omega,fun j b=>?_⟩,⟨by omega,fun j b=>?_⟩⟩
 ·have:=h.asz j b
  unfold maxLen;omega
 ·have:=h.lsz j b
  unfold maxLen;omega
theorem mX {s:ByteArray}(h:au s=QC):s.size<=60:=by unfold au at h;rw[gM,j4] at h;exact h.1.2
theorem Cf (S:Spc)(nm:ByteArray):∀ x∈bk S (bj S nm).1,FitD x/\x.text.size<=2000/\x.actN<=200/\x.linksN<=200:=by
 obtain⟨p,_,l⟩:=oJ S nm;intro x y;obtain⟨e,k,rfl⟩:=IC.1 y;have d:=p.ents e k;have t:=l (List.ne_nil_of_mem k);have h1:=mX d.nm;have h2:=d.tx;have o:=d.looks;have g:(bi S (bj S nm).1 e).linksN=e.looks.length:=rfl;have i:(bi S (bj S nm).1 e).actN=bW S e:=rfl;have n:bW S e=0∨valid (S.f1 e.tg).act (S.f1 e.tg).actN=QC/\bW S e=(S.f1 e.tg).actN:=by
  rcases d.kind with ⟨b,_⟩ | ⟨b,_⟩ | ⟨b,_,u⟩
  ·exact .inl (by unfold bW;rw[a8 (by omega)])
  ·exact .inl (by unfold bW;rw[a8 (by omega)])
  ·refine .inr ⟨t.act _ (aT u).1,?_⟩
   unfold bW;rw[eT b]
 have z:bW S e<=200:=by
  rcases n with h | ⟨h,r⟩
  ·omega
  ·have:=(bY h).2.2
   omega
 have q:∀ j,j<bW S e->((S.f1 e.tg).act j).s.size<=5000:=by
  intro j f;rcases n with h | ⟨h,r⟩
  ·omega
  ·have b:=jj (bY h).1 (show j<_ by omega)
   unfold cD at b;rw[j4] at b;have hm:bP ((S.f1 e.tg).act j).op<=2000:=by unfold bP;split<;>omega
   omega
 have m:∀ j,j<e.looks.length->(lkF (bj S nm).1 e.looks j).name.size<=5000:=by intro j f;rw[jT (gq f)];have:=mX (d.lname _ (gz f));show(e.looks[j]).name.size<=5000;omega
 exact⟨⟨by show e.name.size<=_;omega,by show e.text.size<=_;omega,by rw[i];omega,q,by rw[g];omega,m⟩,h2,by rw[i];exact z,by rw[g];exact o⟩
end Go.Proofs.YtkdimgejdocbbaaGreatDoor.Vp
namespace Go.Proofs.YtkdimgejdocbbaaGreatDoor.Vp
open RowKit
def lv (x y:Link):Bool:=x.name.toList == y.name.toList && x.ask == y.ask && x.has == y.has && x.at_ == y.at_
theorem DV {x y:Link}(h:lv x y=QC):x=y:=by obtain⟨a,b,c,d⟩:=x;obtain⟨a',b',c',d'⟩:=y;simp only[lv,gM,MP] at h;obtain⟨⟨⟨h1,rfl⟩,rfl⟩,rfl⟩:=h;rw[eP h1]
theorem DW (x y:Link)(w:E):(binOp .neq 64 (QE #[U x.name,QA x.ask,QA x.has,N I x.at_]) (QE #[U y.name,QA y.ask,QA y.has,N I y.at_])).run Tryz.prog w=.ok (QA (!lv x y)) w:=by
 have b:Tryz.prog.underlying 64=Q (.struct (Tryz.prog.fieldsOf 64)):=by kernel_rfl
 have d:Tryz.prog.stoodInHeld 64=D:=by kernel_rfl
 rw[run_neq_struct,show(10000:Nat)=9999+1 from rfl,run_equalIn_agg w 9999 64 _ _ b d];simp only[Program.fieldsOf,Tryz.underlying64];go_simp;unfold lv;by_cases h1:x.name.toList=y.name.toList<;>by_cases h2:x.ask=y.ask<;>by_cases f:x.has=y.has<;>by_cases g:x.at_=y.at_<;>simp[h1,h2,f,g]
theorem tG (a:Option Addr)(n c:Nat)(f:Nat->Ins)(l:Option Addr)(m o:Nat)(g:Nat->Ins)(w:E)(hn:n<=1048576)(G:SlIns w a n f)(QP:SlIns w l m g):Calls Tryz.prog 69 #[QE #[Y a n c],QE #[Y l m o]] w fun e R=>e=QD (QA (cL f g n m))/\Below w.heap.size w R:=by
 have M:=ae G;have QK:=ae QP;clear G QP;have A:=ae (((Qs w).alloc lr (T #[Y a n c] 31)).alloc (by simp) (T #[Y l m o] 31));have t:Hid (PB ((w.alloc (T #[Y a n c] 31)).alloc (T #[Y l m o] 31)) w.heap.size (Y a n c)):=by show _=_;rw[J7 _ _ (by simp)];exact eL w _
 have u:Hid (PB ((w.alloc (T #[Y a n c] 31)).alloc (T #[Y l m o] 31)) (w.heap.size+1) (Y l m o)):=KH w _ _;obtain⟨r,d⟩:∃ r,r=cL f g n m:=⟨_,rfl⟩
 rw[<-d];have C:=ae d;clear d;go_enter Tryz.func69,Tryz.ntmps69;go_upto_region 1 with fail;generalize (w.alloc (T #[Y a n c] 31)).alloc (T #[Y l m o] 31)=x at A t u ⊢;have z0:=t.c0;have z1:=u.c0;have O:=t.lt;have QL:=u.lt;by_cases z:n=m;case neg =>
  have h2:((n:Int) == (m:Int))=D:=by simp;omega
  go_wp2;go_ret;exact⟨aW (by rw[C.out];simp[cL,z]),A⟩
 subst z;go_wp2;clear z0 z1;go_loopw [5] (fun i wr=>∃ k:Nat,k<=n/\i=N I k/\Hid (cU f g k=QC)/\Hid (∃ q,wr=x.drewN q)) (fun i _=>n - (intOf i).toNat);case atStart=>exact⟨0,by omega,rfl,rfl,0,rfl⟩
 case round =>
  obtain⟨k,hk,rfl,QQ,QO⟩:=hrel;have y:Hid (Below x.heap.size x wr):=by obtain⟨q,j⟩:=QO.out;rw[j];exact wC br q
  have z0:=(t.below y O).c0;have z1:=(u.below y QL).c0;have l2:=y.size;have s:=ae (A.trans (y.mono (by omega)));by_cases p:k<n
  ·rcases M.below s lr with h | ⟨b,off,rfl,d⟩
   ·omega
   rcases QK.below s lr with h | ⟨b',off',rfl,j⟩
   ·omega
   obtain⟨c0,c1,c2⟩:=d.2 k p;obtain⟨S,QM,P⟩:=j.2 k p;have hb:=d.1;have H:=j.1;clear d j;have hlt2:(k:Int)<n:=by omega
   have QN:=ya (f k) (g k);go_wp2_with fail;go_quiet (fail);have L:Hid (∃ q,wr.drewN nq=x.drewN q):=by obtain⟨q,j⟩:=QO.out;exact⟨q+nq,by rw[j,World.drewN_drewN]⟩
   have K:=ae (wC s nq);clear c0 c1 c2 S QM P QN z0 z1 hb H;generalize wr.drewN nq=W at L K ⊢;cases hb:j7 (f k) (g k) with
   | true =>have B:=ae hb;clear hb;go_wp2;exact⟨⟨k+1,by omega,by go_num,by show cU f g (k+1)=QC;rw[cU,QQ.out,B.out];rfl,L⟩,by simp[intOf];omega⟩
   | false =>have B:=ae hb;clear hb;go_wp2;go_ret;exact⟨aW (by rw[C.out];simp[cL,mH p B.out]),K⟩
  ·obtain rfl:k=n:=by omega
   go_wp2;go_ret;exact⟨aW (by rw[C.out];simp[cL,QQ.out]),s⟩
def Cn (QP:Prop)(w:E)(e:Ending)(d:E):Prop:=∃ b:Bool,e=QD (QA b)/\(b=QC ↔ QP)/\Below w.heap.size w d
theorem zv (x y:aj):((x.name.toList == y.name.toList)=D/\¬ DeedEq x y)∨(x.name=y.name/\(x.kind == y.kind)=D/\¬ x.kind=y.kind/\¬ DeedEq x y)∨(x.name=y.name/\x.kind=y.kind/\(x.code == y.code)=D/\¬ x.code=y.code/\¬ DeedEq x y)∨(x.name=y.name/\x.kind=y.kind/\x.code=y.code/\(x.text.toList == y.text.toList)=D/\¬ DeedEq x y)∨(x.name=y.name/\x.kind=y.kind/\x.code=y.code/\x.text=y.text/\((x.linksN:Int) == (y.linksN:Int))=D/\¬ DeedEq x y)∨(x.name=y.name/\x.kind=y.kind/\x.code=y.code/\x.text=y.text/\x.linksN=y.linksN):=by
 cases h0:(x.name.toList == y.name.toList)
 ·exact .inl ⟨rfl,fun e=>by rw[e.name] at h0;simp at h0⟩
 cases h1:(x.kind == y.kind)
 ·exact .inr (.inl ⟨bytes_beq h0,rfl,by simpa using h1,fun e=>by rw[e.kind] at h1;simp at h1⟩)
 cases h2:(x.code == y.code)
 ·exact .inr (.inr (.inl ⟨bytes_beq h0,by simpa using h1,rfl,by simpa using h2,fun e=>by rw[e.code] at h2;simp at h2⟩))
 cases h3:(x.text.toList == y.text.toList)
 ·exact .inr (.inr (.inr (.inl ⟨bytes_beq h0,by simpa using h1,by simpa using h2,rfl,fun e=>by rw[e.text] at h3;simp at h3⟩)))
 cases h4:((x.linksN:Int) == (y.linksN:Int))
 ·exact .inr (.inr (.inr (.inr (.inl ⟨bytes_beq h0,by simpa using h1,by simpa using h2,bytes_beq h3,rfl,fun e=>by rw[e.linksN] at h4;simp at h4⟩))))
 exact .inr (.inr (.inr (.inr (.inr ⟨bytes_beq h0,by simpa using h1,by simpa using h2,bytes_beq h3,by simp at h4;omega⟩))))
def DBx (V:E)(b:Nat)(x:aj)(a0:Option Addr)(c0:Nat)(a1:Option Addr)(c1:Nat):Prop:=V.heap[b]?=Q (T #[U x.name,N I x.kind,N I x.code,U x.text,Y a0 x.actN c0,Y a1 x.linksN c1] 58 (0,0))
section
variable {V QJ:E}{b:Nat}{x:aj}{a0 a1:Option Addr}{c0 c1:Nat}
theorem DBx.cells (h:DBx V b x a0 c0 a1 c1):b<V.heap.size/\V.cell? (J b 0 Z)=Q (U x.name)/\V.cell? (J b 1 Z)=Q (N I x.kind)/\V.cell? (J b 2 Z)=Q (N I x.code)/\V.cell? (J b 3 Z)=Q (U x.text)/\V.cell? (J b 4 Z)=Q (Y a0 x.actN c0)/\V.cell? (J b 5 Z)=Q (Y a1 x.linksN c1):=by have d:V.heap[b]?=_:=h;refine⟨aC d,?_,?_,?_,?_,?_,?_⟩<;>simp[World.cell?,d]
theorem DBx.below (h:DBx V b x a0 c0 a1 c1)(hb:Below V.heap.size V QJ):DBx QJ b x a0 c0 a1 c1:=(hb.block b (aC h)).trans h
end
theorem zx (x y:aj)(a0:Option Addr)(c0:Nat)(a1:Option Addr)(c1:Nat)(b0:Option Addr)(j:Nat)(f:Option Addr)(n:Nat)(w:E)(m:cY x)(M:SlIns w a0 x.actN x.act)(L:SlLink w a1 x.linksN x.links)(K:SlIns w b0 y.actN y.act)(QN:SlLink w f y.linksN y.links):Calls Tryz.prog 204 #[QE #[U x.name,N I x.kind,N I x.code,U x.text,Y a0 x.actN c0,Y a1 x.linksN c1],QE #[U y.name,N I y.kind,N I y.code,U y.text,Y b0 y.actN j,Y f y.linksN n]] w fun e w'=>Cn (DeedEq x y) w e w':=by
 obtain⟨g,QQ⟩:∃ g,g=w.alloc (T #[U x.name,N I x.kind,N I x.code,U x.text,Y a0 x.actN c0,Y a1 x.linksN c1] 58):=⟨_,rfl⟩
 have S:=(Qs w).alloc lr (T #[U x.name,N I x.kind,N I x.code,U x.text,Y a0 x.actN c0,Y a1 x.linksN c1] 58);have QL:DBx (w.alloc (T #[U x.name,N I x.kind,N I x.code,U x.text,Y a0 x.actN c0,Y a1 x.linksN c1] 58)) w.heap.size x a0 c0 a1 c1:=eL w _;have hz:(w.alloc (T #[U x.name,N I x.kind,N I x.code,U x.text,Y a0 x.actN c0,Y a1 x.linksN c1] 58)).heap.size=w.heap.size+1:=by simp
 rw[<-QQ] at S QL hz;have z:=ae (S.alloc (by omega) (T #[U y.name,N I y.kind,N I y.code,U y.text,Y b0 y.actN j,Y f y.linksN n] 58));have QH:=ae (QL.below ((Qs g).alloc lr (T #[U y.name,N I y.kind,N I y.code,U y.text,Y b0 y.actN j,Y f y.linksN n] 58)));have Q1:Hid (DBx (g.alloc (T #[U y.name,N I y.kind,N I y.code,U y.text,Y b0 y.actN j,Y f y.linksN n] 58)) (w.heap.size+1) y b0 j f n):=by rw[<-hz];exact eL g _
 have X:=ae (fun V (l:Below w.heap.size w V)=>tG a0 x.actN c0 x.act b0 y.actN j y.act V m.1 (M.below l lr) (K.below l lr));have V1:=ae L;have P:=ae QN;have bt:=m.2;clear M L K QN m S QL;have o:Hid (DeedEq x y->cL x.act y.act x.actN y.actN=QC/\∀ i,i<x.linksN->lv (x.links i) (y.links i)=QC):=fun h=>⟨by simp[cL,h.actN,kN fun i hi=>h.act i (by rw[h.actN];exact hi)],fun i hi=>by rw[h.links i hi];simp[lv]⟩
 have d:Hid (x.name=y.name->x.kind=y.kind->x.code=y.code->x.text=y.text->x.linksN=y.linksN->cL x.act y.act x.actN y.actN=QC->(∀ i,i<x.linksN->lv (x.links i) (y.links i)=QC)->DeedEq x y):=fun h1 h2 h3 h4 h5 h6 h7=>by simp only[cL,gM,j4] at h6;exact⟨h1,h2,h3,h4,h6.1,sR h6.2,h5,fun i hi=>DV (h7 i hi)⟩
 have B:=ae (zv x y);generalize cL x.act y.act x.actN y.actN=cb at X o d;generalize DeedEq x y=QP at o d B ⊢;go_enter Tryz.func204,Tryz.ntmps204;go_upto_region 1 with fail;rw[<-QQ];clear QQ hz;generalize g.alloc (T #[U y.name,N I y.kind,N I y.code,U y.text,Y b0 y.actN j,Y f y.linksN n] 58)=QK at z QH Q1 ⊢;obtain⟨G,z0,z1,z2,z3,z4,t⟩:=QH.cells;obtain⟨r,y0,y1,y2,y3,y4,s⟩:=Q1.cells;have hw:=z.size;have O:Hid (∀ V,Below QK.heap.size QK V->w.heap.size<V.heap.size/\w.heap.size+1<V.heap.size/\V.cell? (J w.heap.size 5 Z)=Q (Y a1 x.linksN c1)/\V.cell? (J (w.heap.size+1) 5 Z)=Q (Y f y.linksN n)):=fun V l=>⟨ll G l.size,ll r l.size,(l.cell (p:=(J w.heap.size 5 Z)) G).trans t,(l.cell (p:=(J (w.heap.size+1) 5 Z)) r).trans s⟩
 clear QH Q1;have q:=B.out;clear B;generalize x.links=xl at V1 o d;generalize y.links=yl at P o d;generalize x.name=n1 at z0 d q ⊢;generalize x.kind=k1 at z1 d q ⊢;generalize x.code=g1 at z2 d q ⊢;generalize x.text=t1 at z3 d q ⊢;generalize x.linksN=u at t d q V1 o O bt ⊢;generalize y.linksN=m2 at s d q P O ⊢;rcases q with ⟨h,QM⟩ | ⟨rfl,h,h',QM⟩ | ⟨rfl,rfl,h,h',QM⟩ | ⟨rfl,rfl,rfl,h,QM⟩ | ⟨rfl,rfl,rfl,rfl,h,QM⟩ | ⟨rfl,rfl,rfl,rfl,rfl⟩
 iterate 5
  ·have A:=ae QM
   clear QM;go_wp2;go_ret;exact⟨D,rfl,⟨nofun,fun e=>(A.out e).elim⟩,z⟩
 have HJ:=ae (d.out rfl rfl rfl rfl rfl);clear d;go_wp2_with fail;refine(X.out QK z).mono ?_;rintro e w1 ⟨rfl,QJ⟩;have R:=ae (z.trans (QJ.mono hw));have H:=ae QJ;clear QJ X z0 z1 z2 z3 z4 t y0 y1 y2 y3 y4 s G r hw;cases cb with
 | false =>go_wp2;go_ret;exact⟨D,rfl,⟨nofun,fun e=>by have:=(o.out e).1;cases this⟩,R⟩
 | true =>
  go_wp2;go_loopw [5] (fun i wr=>∃ k:Nat,k<=u/\i=N I k/\Hid (∀ i,i<k->lv (xl i) (yl i)=QC)/\Hid (Below w1.heap.size w1 wr)) (fun i _=>u - (intOf i).toNat);case atStart=>exact⟨0,by omega,rfl,fun i hi=>absurd hi (by omega),eI _ _⟩
  case round =>
   obtain⟨k,hk,rfl,HK,HW⟩:=hrel;have QO:=ae (R.trans (HW.mono R.size));obtain⟨G,r,t,s⟩:=O.out _ (H.trans (HW.mono H.size));by_cases C:k<u
   ·rcases V1.below QO lr with h | ⟨b,off,rfl,QG⟩
    ·omega
    rcases P.below QO lr with h | ⟨b',off',rfl,hq⟩
    ·omega
    obtain⟨e0,e1,e2,e3⟩:=QG.2 k C;obtain⟨g0,g1,g2,g3⟩:=hq.2 k C;have hb:=QG.1;have ex:=hq.1;clear QG hq;have hlt2:(k:Int)<u:=by omega
    have aq:=DW (xl k) (yl k);go_wp2_with fail;go_quiet (fail);have H:=ae (wC HW nq);have B2:=ae (wC QO nq);clear e0 e1 e2 e3 g0 g1 g2 g3 aq t s hb ex G r;generalize wr.drewN nq=W at H B2 ⊢;cases hb:lv (xl k) (yl k) with
    | true =>
     have A:=ae hb;clear hb;go_wp2
     exact⟨⟨k+1,by omega,by go_num,(fun i hi=>by
      rcases J0.1 hi with h | rfl
      ·exact HK i h
      ·exact A),H⟩,by simp[intOf];omega⟩
    | false =>have A:=ae hb;clear hb;go_wp2;go_ret;exact⟨D,rfl,⟨nofun,fun e=>by have:=(o.out e).2 k C;rw[A.out] at this;cases this⟩,B2⟩
   ·obtain rfl:k=u:=by omega
    go_wp2;go_ret;exact⟨QC,rfl,⟨fun _=>HJ.out (by simp) HK.out,fun _=>rfl⟩,QO⟩
theorem tH (a:Option Addr)(n c:Nat)(f:Nat->aj)(d:Option Addr)(m l:Nat)(g:Nat->aj)(w:E)(hn:n<=1048576)(G:SlDeed w a n f)(O:SlDeed w d m g)(q:∀ i,i<n->cY (f i)):Calls Tryz.prog 137 #[QE #[Y a n c],QE #[Y d m l]] w fun e QN=>Cn (m=n/\∀ i,i<n->DeedEq (f i) (g i)) w e QN:=by
 have HF:=ae G;have HG:=ae O;have HM:=ae q;clear G O q;have r:=ae (((Qs w).alloc lr (T #[Y a n c] 50)).alloc (by simp) (T #[Y d m l] 50));have y:Hid (((w.alloc (T #[Y a n c] 50)).alloc (T #[Y d m l] 50)).heap[w.heap.size]?=Q (T #[Y a n c] 50 (0,0))):=by show _=_;rw[J7 _ _ (by simp)];exact eL w _
 have QP:Hid (((w.alloc (T #[Y a n c] 50)).alloc (T #[Y d m l] 50)).heap[w.heap.size+1]?=Q (T #[Y d m l] 50 (0,0))):=KH w _ _;go_enter Tryz.func137,Tryz.ntmps137;go_upto_region 1 with fail;generalize (w.alloc (T #[Y a n c] 50)).alloc (T #[Y d m l] 50)=p at r y QP ⊢;have l0:=aC y.out;have X:=aC QP.out;have K:=r.size;have H:Hid (∀ V,Below p.heap.size p V->V.cell? (J w.heap.size 0 Z)=Q (Y a n c)/\V.cell? (J (w.heap.size+1) 0 Z)=Q (Y d m l)):=fun V j=>by have A:=(j.block _ l0).trans y.out;have C:=(j.block _ X).trans QP.out;constructor<;>simp[World.cell?,A,C]
 obtain⟨z0,z1⟩:=H.out p br;by_cases t:n=m;case neg =>
  have h2:((n:Int) == (m:Int))=D:=by simp;omega
  go_wp2;go_ret;exact⟨D,rfl,⟨nofun,fun h=>absurd h.1.symm t⟩,r⟩
 subst t;go_wp2;clear z0 z1;go_loopw [5] (fun i wr=>∃ k:Nat,k<=n/\i=N I k/\Hid (∀ i,i<k->DeedEq (f i) (g i))/\Hid (Below p.heap.size p wr)) (fun i _=>n - (intOf i).toNat);case atStart=>exact⟨0,by omega,rfl,fun i hi=>absurd hi (by omega),eI _ _⟩
 case round =>
  obtain⟨k,hk,rfl,QM,s⟩:=hrel;obtain⟨z0,z1⟩:=H.out _ s.out;have W:=s.size;have z:=ae (r.trans (s.mono K));by_cases o:k<n
  ·rcases HF.below z lr with h | ⟨b,off,rfl,B⟩
   ·omega
   rcases HG.below z lr with h | ⟨b',off',rfl,QQ⟩
   ·omega
   obtain⟨A,C,QK,p3,⟨QJ,k4,p4,M⟩,⟨x5,QG,p5,QO⟩⟩:=B.2 k o;obtain⟨q0,QH,q2,q3,⟨u4,R,S,L⟩,⟨u5,m5,q5,P⟩⟩:=QQ.2 k o;have hb:=B.1;have hb':=QQ.1;have CD:=ae (fun V (j:Below wr.heap.size wr V)=>zx (f k) (g k) QJ k4 x5 QG u4 R u5 m5 V (HM.out k o) (M.below j lr) (QO.below j lr) (L.below j lr) (P.below j lr));clear B QQ M QO L P;have hlt2:(k:Int)<n:=by omega
   go_wp2_with fail;go_region_with (go_at_call 204;refine(CD.out _ (by repeat (first | exact eI _ _ | apply Below.drew))).mono ?_;rintro e QN ⟨bb,rfl,u,x⟩);all_goals
    have QL:=ae (Below.trans (by repeat (first | exact s.out | apply Below.drew)) (x.mono W));have B2:=ae (r.trans (QL.mono K));clear x A C QK p3 p4 p5 q0 QH q2 q3 S q5 z0 z1;cases bb with
    | true =>
     go_wp2
     exact⟨⟨k+1,by omega,by go_num,(fun i hi=>by
      rcases J0.1 hi with h | rfl
      ·exact QM i h
      ·exact u.1 rfl),QL⟩,by simp[intOf];omega⟩
    | false =>go_wp2;go_ret;exact⟨D,rfl,⟨nofun,fun h=>by have:=u.2 (h k o);cases this⟩,B2⟩
  ·obtain rfl:k=n:=by omega
   go_wp2;go_ret;exact⟨QC,rfl,⟨fun _=>QM.out,fun _=>rfl⟩,z⟩
end Go.Proofs.YtkdimgejdocbbaaGreatDoor.Vp
