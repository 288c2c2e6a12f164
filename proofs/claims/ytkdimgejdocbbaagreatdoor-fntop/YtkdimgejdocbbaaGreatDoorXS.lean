import Derived.Test.YtkdimgejdocbbaaGreatDoorXQ
import Derived.Test.YtkdimgejdocbbaaGreatDoorXR
import Derived.Test.YtkdimgejdocbbaaGreatDoorZW
set_option maxRecDepth 100000
set_option maxHeartbeats 4000000
open Go.Addr renaming mk->J
open Go.Value renaming slice->Z,string->U,int->Q,bool->QA,agg->QE
open Option renaming none->Y,some->N
open Go.Obj renaming cells->T
open Go.IntKind renaming i64->I
open Go renaming World->E
open Bool renaming false->D,true->QC
open Go.Ending renaming returned->QD
namespace Go.Proofs.YtkdimgejdocbbaaGreatDoor.Vp
open RowKit Go.Sort
theorem rj (a:Option Addr)(n g:Nat)(f:Nat->aj)(w:E)(hn:(n:Int)<=1048576)(hv:SlDeed w a n f)(B:∀ i,i<n->cY (f i))(K:∀ i,i<n->gV (f i)):Calls Tryz.prog 32 #[QE #[Z a n g]] w fun e w'=>∃ b off m c:Nat,e=QD (Z (N (J b off Y)) m c)/\m=(iW f n).length/\RowStr w' b off m (nmF (iW f n))/\Below w.heap.size w w':=by
 have S:=ae hv;have t:=ae B;have HZ:=ae K;clear hv B K;have A:=ae (((Qs w).alloc lr (T #[Z a n g] 50)).alloc (by simp) (T #[] 9));have QG:((w.alloc (T #[Z a n g] 50)).alloc (T #[] 9)).cell? (J w.heap.size 0 Y)=N (Z a n g):=by simp
 have QO:=ae (show RowStr ((w.alloc (T #[Z a n g] 50)).alloc (T #[] 9)) (w.heap.size+1) 0 0 (nmF []) from⟨by simp,fun i hi=>absurd hi (CV _)⟩);obtain⟨QK,X⟩:∃ QK,QK=iW f n:=⟨_,rfl⟩
 rw[<-X];have H:=ae (show QK=if aX f n=QC then dv f n else [] from X);clear X;go_enter Tryz.func32,Tryz.ntmps32;go_wp2_with fail;generalize (w.alloc (T #[Z a n g] 50)).alloc (T #[] 9)=W at A QG QO ⊢;have hz:w.heap.size<W.heap.size:=by have:=QO.1;omega
 refine(Af a n g f _ hn (S.below A lr) t HZ).mono ?_;rintro e QH ⟨rfl,d⟩;have s:=ae (A.trans (d.mono A.size));have E1:=ae (QO.below d lr);have k1:=(d.cell (p:=(J w.heap.size 0 Y)) hz).trans QG;have R:w.heap.size<QH.heap.size:=ll hz d.size;clear d A QO QG hz;have QJ:=ae (fun h:aX f n=QC=>(⟨dU h,gP h⟩:(1<=n/\n<=400/\aJ (bc f) n=-1)/\∀ p,p<n->(f p).linksN<=200));generalize aX f n=r at H QJ ⊢;cases r with
 | false =>obtain rfl:QK=[]:=H.out;go_wp2;go_ret;exact⟨w.heap.size+1,0,0,0,rfl,rfl,E1,s⟩
 | true =>
  obtain rfl:QK=dv f n:=H.out;obtain⟨⟨hn1,hn4,-⟩,hl⟩:=QJ.out rfl;have L:=ae hl;clear hl;clear H QJ t;obtain⟨b,off,rfl,y⟩:=S.resolve_left (by omega);have HR:=ae y;clear S y;go_wp2;go_loopw [3,4] (fun v i wr=>∃ (k G l m QQ:Nat),k<=n/\i=Q I k/\v=Z (N (J G l Y)) m QQ/\Hid (m=(dv f k).length)/\m<=QQ/\Hid (RowStr wr G l m (nmF (dv f k)))/\Hid (Below QH.heap.size QH wr)) (fun _ i _=>n - (intOf i).toNat);case atStart=>exact⟨0,w.heap.size+1,0,0,0,by omega,rfl,rfl,rfl,by omega,E1,eI _ _⟩
  case round =>
   obtain⟨k,G,l,m,QQ,hk,rfl,rfl,t,hmc,HK,x⟩:=hrel;have k2:=(x.cell (p:=(J w.heap.size 0 Y)) R).trans k1;by_cases QL:k<n
   ·have hm0:m<=k*201:=by have h1:=t.out;have h2:=pN (f:=f) (k:=k) (fun p hp=>L p (by omega));omega
    have hm:(m:Int)<=1048576:=by omega
    have hlk:=L.out k QL;have HS:=ae (show dv f (k+1)=iV (da (dv f k) (f k).name.toList) (f k).links (f k).linksN from rfl);obtain⟨p0,p1,p2,p3,⟨a0,cap0,p4,q4⟩,⟨a1,cap1,p5,q5⟩⟩:=(HR.below (s.trans (x.mono s.size)) lr).2 k QL;clear q4 p4 p1 p2 p3;have Q5:=ae q5;clear q5;have la:=(HR.below (s.trans (x.mono s.size)) lr).1;have P5:=ae p5;clear p5;go_wp2_with (go_at_call 108;refine(pM G l m QQ (dv f k) (f k).name _ t hm (by omega) HK).mono ?_;rintro e w2 ⟨b2,aq,m2,c2,rfl,C,bt,O,d⟩;have H2:=ae C;have R2:=ae O;have D2:=ae d;have B2:=ae (x.trans (d.mono x.size));clear C O d);have C:m2<=k*201+1:=by have h1:=t.out;have h2:=H2.out;have h3:=mZ (dv f k) (f k).name.toList;omega
    have c2k:=bt;go_loopw [3,5] (fun v i w3=>∃ (j QP o q c3:Nat),j<=(f k).linksN/\i=Q I j/\v=Z (N (J QP o Y)) q c3/\Hid (q=(iV (da (dv f k) (f k).name.toList) (f k).links j).length)/\q<=c3/\Hid (RowStr w3 QP o q (nmF (iV (da (dv f k) (f k).name.toList) (f k).links j)))/\Hid (Below w2.heap.size w2 w3)) (fun _ i _=>(f k).linksN - (intOf i).toNat);case atStart=>exact⟨0,b2,aq,m2,c2,by omega,rfl,rfl,H2,by omega,R2,eI _ _⟩
    case round =>
     obtain⟨j,QP,o,q,c3,hj,rfl,rfl,z,hmc3,QM,u⟩:=hrel;have D3:=ae (D2.trans (u.mono D2.size));have B3:=ae (B2.trans (u.mono B2.size));have k3:=(B3.cell (p:=(J w.heap.size 0 Y)) R).trans k1;have p6:=(D3.cell (p:=(J b (off+k*6+5) Y)) la).trans P5;have Q6:=ae (Q5.below D3 lr);have fd:(q:Int)<=1048576:=by have h1:=z.out;have h2:=rL (da (dv f k) (f k).name.toList) (f k).links j;have h3:=H2.out;omega
     by_cases ex:j<(f k).linksN
     ·obtain⟨b4,off4,rfl,QN⟩:=Q6.resolve_left (by omega)
      obtain⟨r0,r1,r2,r3⟩:=QN.2 j ex;clear r1 r2 r3 QN;go_wp2_with (go_at_call 108;refine(pM QP o q c3 _ ((f k).links j).name _ z fd (by omega) QM).mono ?_;rintro e w4 ⟨b5,V,m5,c5,rfl,P,hc5,M,d⟩;have H5:=ae P;have R5:=ae M;have B5:=ae (u.trans (d.mono u.size));clear P M d);exact⟨⟨j+1,b5,V,m5,c5,by omega,by go_num,rfl,H5,by omega,R5,B5⟩,by simp[intOf];omega⟩
     ·obtain rfl:j=(f k).linksN:=by omega
      go_wp2;exact⟨⟨k+1,QP,o,q,c3,by omega,by go_num,rfl,by rw[HS.out];exact z,by omega,by rw[HS.out];exact QM,B3⟩,by simp[intOf];omega⟩
   ·obtain rfl:k=n:=by omega
    go_wp2;go_ret;exact⟨G,l,m,QQ,rfl,t,HK,s.trans (x.mono s.size)⟩
end Go.Proofs.YtkdimgejdocbbaaGreatDoor.Vp
namespace Go.Proofs.YtkdimgejdocbbaaGreatDoor.Vp
open RowKit Ca
structure FitD (x:aj):Prop where
 nm:x.name.size<=5000
 tx:x.text.size<=5000
 an:x.actN<=300
 asz:∀ j,j<x.actN->(x.act j).s.size<=5000
 ln:x.linksN<=300
 lsz:∀ j,j<x.linksN->(x.links j).name.size<=5000
theorem FitD.fits {x:aj}(h:FitD x):cY x:=⟨by have:=h.an;omega,by have:=h.ln;omega⟩
theorem FitD.sized {x:aj}(h:FitD x):gV x:=by
 have h1:=h.nm;have h2:=h.tx;have h3:=h.an;have h5:=h.ln;refine⟨by unfold maxLen;omega,by unfold maxLen;omega,⟨by omega,fun j b=>?_⟩,⟨by omega,fun j b=>?_⟩⟩
 ·have:=h.asz j b
  unfold maxLen;omega
 ·have:=h.lsz j b
  unfold maxLen;omega
theorem mX {s:ByteArray}(h:au s=QC):s.size<=60:=by unfold au at h;rw[gM,j4] at h;exact h.1.2
theorem Cf (S:Spc)(nm:ByteArray):∀ x∈bk S (bj S nm).1,FitD x/\x.text.size<=2000/\x.actN<=200/\x.linksN<=200:=by
 obtain⟨y,_,g⟩:=oJ S nm;intro x t;obtain⟨e,m,rfl⟩:=ID.1 t;have d:=y.ents e m;have p:=g (List.ne_nil_of_mem m);have h1:=mX d.nm;have h2:=d.tx;have r:=d.looks;have i:(bi S (bj S nm).1 e).linksN=e.looks.length:=rfl;have k:(bi S (bj S nm).1 e).actN=bW S e:=rfl;have n:bW S e=0∨valid (S.f1 e.tg).act (S.f1 e.tg).actN=QC/\bW S e=(S.f1 e.tg).actN:=by
  rcases d.kind with ⟨b,_⟩ | ⟨b,_⟩ | ⟨b,_,q⟩
  ·exact .inl (by unfold bW;rw[a8 (by omega)])
  ·exact .inl (by unfold bW;rw[a8 (by omega)])
  ·refine .inr ⟨p.act _ (aT q).1,?_⟩
   unfold bW;rw[eT b]
 have z:bW S e<=200:=by
  rcases n with h | ⟨h,u⟩
  ·omega
  ·have:=(bY h).2.2
   omega
 have o:∀ j,j<bW S e->((S.f1 e.tg).act j).s.size<=5000:=by
  intro j f;rcases n with h | ⟨h,u⟩
  ·omega
  ·have b:=jj (bY h).1 (show j<_ by omega)
   unfold cD at b;rw[j4] at b;have hm:bP ((S.f1 e.tg).act j).op<=2000:=by unfold bP;split<;>omega
   omega
 have l:∀ j,j<e.looks.length->(lkF (bj S nm).1 e.looks j).name.size<=5000:=by intro j f;rw[jT (gq f)];have:=mX (d.lname _ (gz f));show(e.looks[j]).name.size<=5000;omega
 exact⟨⟨by show e.name.size<=_;omega,by show e.text.size<=_;omega,by rw[k];omega,o,by rw[i];omega,l⟩,h2,by rw[k];exact z,by rw[i];exact r⟩
end Go.Proofs.YtkdimgejdocbbaaGreatDoor.Vp
namespace Go.Proofs.YtkdimgejdocbbaaGreatDoor.Vp
open RowKit
def lv (x y:Link):Bool:=x.name.toList == y.name.toList && x.ask == y.ask && x.has == y.has && x.at_ == y.at_
theorem DV {x y:Link}(h:lv x y=QC):x=y:=by obtain⟨a,b,c,d⟩:=x;obtain⟨a',b',c',d'⟩:=y;simp only[lv,gM,MU] at h;obtain⟨⟨⟨h1,rfl⟩,rfl⟩,rfl⟩:=h;rw[eP h1]
theorem DW (x y:Link)(w:E):(binOp .neq 64 (QE #[U x.name,QA x.ask,QA x.has,Q I x.at_]) (QE #[U y.name,QA y.ask,QA y.has,Q I y.at_])).run Tryz.prog w=.ok (QA (!lv x y)) w:=by
 have f:Tryz.prog.underlying 64=N (.struct (Tryz.prog.fieldsOf 64)):=by kernel_rfl
 have d:Tryz.prog.stoodInHeld 64=D:=by kernel_rfl
 rw[run_neq_struct,show(10000:Nat)=9999+1 from rfl,run_equalIn_agg w 9999 64 _ _ f d];simp only[Program.fieldsOf,Tryz.underlying64];go_simp;unfold lv;by_cases h1:x.name.toList=y.name.toList<;>by_cases h2:x.ask=y.ask<;>by_cases b:x.has=y.has<;>by_cases g:x.at_=y.at_<;>simp[h1,h2,b,g]
theorem tG (a:Option Addr)(n c:Nat)(f:Nat->Ins)(l:Option Addr)(m o:Nat)(g:Nat->Ins)(w:E)(hn:n<=1048576)(QN:SlIns w a n f)(QO:SlIns w l m g):Calls Tryz.prog 69 #[QE #[Z a n c],QE #[Z l m o]] w fun e O=>e=QD (QA (cL f g n m))/\Below w.heap.size w O:=by
 have M:=ae QN;have QK:=ae QO;clear QN QO;have C:=ae (((Qs w).alloc lr (T #[Z a n c] 31)).alloc (by simp) (T #[Z l m o] 31));have u:Hid (PB ((w.alloc (T #[Z a n c] 31)).alloc (T #[Z l m o] 31)) w.heap.size (Z a n c)):=by show _=_;rw[KE _ _ (by simp)];exact eL w _
 have s:Hid (PB ((w.alloc (T #[Z a n c] 31)).alloc (T #[Z l m o] 31)) (w.heap.size+1) (Z l m o)):=KK w _ _;obtain⟨r,d⟩:∃ r,r=cL f g n m:=⟨_,rfl⟩
 rw[<-d];have A:=ae d;clear d;go_enter Tryz.func69,Tryz.ntmps69;go_upto_region 1 with fail;generalize (w.alloc (T #[Z a n c] 31)).alloc (T #[Z l m o] 31)=x at C u s ⊢;have z0:=u.c0;have z1:=s.c0;have S:=u.lt;have P:=s.lt;by_cases z:n=m;case neg =>
  have h2:((n:Int) == (m:Int))=D:=by simp;omega
  go_wp2;go_ret;exact⟨aW (by rw[A.out];simp[cL,z]),C⟩
 subst z;go_wp2;clear z0 z1;go_loopw [5] (fun i wr=>∃ k:Nat,k<=n/\i=Q I k/\Hid (cU f g k=QC)/\Hid (∃ q,wr=x.drewN q)) (fun i _=>n - (intOf i).toNat);case atStart=>exact⟨0,by omega,rfl,rfl,0,rfl⟩
 case round =>
  obtain⟨k,hk,rfl,L,K⟩:=hrel;have t:Hid (Below x.heap.size x wr):=by obtain⟨q,j⟩:=K.out;rw[j];exact xT br q
  have z0:=(u.below t S).c0;have z1:=(s.below t P).c0;have l2:=t.size;have y:=ae (C.trans (t.mono (by omega)));by_cases p:k<n
  ·rcases M.below y lr with h | ⟨b,off,rfl,d⟩
   ·omega
   rcases QK.below y lr with h | ⟨b',off',rfl,j⟩
   ·omega
   obtain⟨c0,c1,c2⟩:=d.2 k p;obtain⟨R,QM,QL⟩:=j.2 k p;have hb:=d.1;have H:=j.1;clear d j;have hlt2:(k:Int)<n:=by omega
   have QQ:=ya (f k) (g k);go_wp2_with fail;go_quiet (fail);have QP:Hid (∃ q,wr.drewN nq=x.drewN q):=by obtain⟨q,j⟩:=K.out;exact⟨q+nq,by rw[j,World.drewN_drewN]⟩
   have G:=ae (xT y nq);clear c0 c1 c2 R QM QL QQ z0 z1 hb H;generalize wr.drewN nq=W at QP G ⊢;cases hb:j7 (f k) (g k) with
   | true =>have B:=ae hb;clear hb;go_wp2;exact⟨⟨k+1,by omega,by go_num,by show cU f g (k+1)=QC;rw[cU,L.out,B.out];rfl,QP⟩,by simp[intOf];omega⟩
   | false =>have B:=ae hb;clear hb;go_wp2;go_ret;exact⟨aW (by rw[A.out];simp[cL,mH p B.out]),G⟩
  ·obtain rfl:k=n:=by omega
   go_wp2;go_ret;exact⟨aW (by rw[A.out];simp[cL,L.out]),y⟩
def Cn (QP:Prop)(w:E)(e:Ending)(d:E):Prop:=∃ b:Bool,e=QD (QA b)/\(b=QC ↔ QP)/\Below w.heap.size w d
theorem zv (x y:aj):((x.name.toList == y.name.toList)=D/\¬ DeedEq x y)∨(x.name=y.name/\(x.kind == y.kind)=D/\¬ x.kind=y.kind/\¬ DeedEq x y)∨(x.name=y.name/\x.kind=y.kind/\(x.code == y.code)=D/\¬ x.code=y.code/\¬ DeedEq x y)∨(x.name=y.name/\x.kind=y.kind/\x.code=y.code/\(x.text.toList == y.text.toList)=D/\¬ DeedEq x y)∨(x.name=y.name/\x.kind=y.kind/\x.code=y.code/\x.text=y.text/\((x.linksN:Int) == (y.linksN:Int))=D/\¬ DeedEq x y)∨(x.name=y.name/\x.kind=y.kind/\x.code=y.code/\x.text=y.text/\x.linksN=y.linksN):=by
 cases h0:(x.name.toList == y.name.toList)
 ·exact .inl ⟨rfl,fun e=>by rw[e.name] at h0;simp at h0⟩
 cases h1:(x.kind == y.kind)
 ·exact .inr (.inl ⟨bytes_beq h0,rfl,by simpa using h1,fun e=>by rw[e.kind] at h1;simp at h1⟩)
 cases h2:(x.code == y.code)
 ·exact .inr (.inr (.inl ⟨bytes_beq h0,by simpa using h1,rfl,by simpa using h2,fun e=>by rw[e.code] at h2;simp at h2⟩))
 cases h3:(x.text.toList == y.text.toList)
 ·exact .inr (.inr (.inr (.inl ⟨bytes_beq h0,by simpa using h1,by simpa using h2,rfl,fun e=>by rw[e.text] at h3;simp at h3⟩)))
 cases h4:((x.linksN:Int) == (y.linksN:Int))
 ·exact .inr (.inr (.inr (.inr (.inl ⟨bytes_beq h0,by simpa using h1,by simpa using h2,bytes_beq h3,rfl,fun e=>by rw[e.linksN] at h4;simp at h4⟩))))
 exact .inr (.inr (.inr (.inr (.inr ⟨bytes_beq h0,by simpa using h1,by simpa using h2,bytes_beq h3,by simp at h4;omega⟩))))
def DBx (V:E)(b:Nat)(x:aj)(a0:Option Addr)(c0:Nat)(a1:Option Addr)(c1:Nat):Prop:=V.heap[b]?=N (T #[U x.name,Q I x.kind,Q I x.code,U x.text,Z a0 x.actN c0,Z a1 x.linksN c1] 58 (0,0))
section
variable {V QJ:E}{b:Nat}{x:aj}{a0 a1:Option Addr}{c0 c1:Nat}
theorem DBx.cells (h:DBx V b x a0 c0 a1 c1):b<V.heap.size/\V.cell? (J b 0 Y)=N (U x.name)/\V.cell? (J b 1 Y)=N (Q I x.kind)/\V.cell? (J b 2 Y)=N (Q I x.code)/\V.cell? (J b 3 Y)=N (U x.text)/\V.cell? (J b 4 Y)=N (Z a0 x.actN c0)/\V.cell? (J b 5 Y)=N (Z a1 x.linksN c1):=by have d:V.heap[b]?=_:=h;refine⟨aC d,?_,?_,?_,?_,?_,?_⟩<;>simp[World.cell?,d]
theorem DBx.below (h:DBx V b x a0 c0 a1 c1)(hb:Below V.heap.size V QJ):DBx QJ b x a0 c0 a1 c1:=(hb.block b (aC h)).trans h
end
theorem zx (x y:aj)(a0:Option Addr)(c0:Nat)(a1:Option Addr)(c1:Nat)(b0:Option Addr)(n:Nat)(f:Option Addr)(m:Nat)(w:E)(l:cY x)(K:SlIns w a0 x.actN x.act)(QN:SlLink w a1 x.linksN x.links)(M:SlIns w b0 y.actN y.act)(L:SlLink w f y.linksN y.links):Calls Tryz.prog 204 #[QE #[U x.name,Q I x.kind,Q I x.code,U x.text,Z a0 x.actN c0,Z a1 x.linksN c1],QE #[U y.name,Q I y.kind,Q I y.code,U y.text,Z b0 y.actN n,Z f y.linksN m]] w fun e w'=>Cn (DeedEq x y) w e w':=by
 obtain⟨o,s⟩:∃ o,o=w.alloc (T #[U x.name,Q I x.kind,Q I x.code,U x.text,Z a0 x.actN c0,Z a1 x.linksN c1] 58):=⟨_,rfl⟩
 have QG:=(Qs w).alloc lr (T #[U x.name,Q I x.kind,Q I x.code,U x.text,Z a0 x.actN c0,Z a1 x.linksN c1] 58);have X:DBx (w.alloc (T #[U x.name,Q I x.kind,Q I x.code,U x.text,Z a0 x.actN c0,Z a1 x.linksN c1] 58)) w.heap.size x a0 c0 a1 c1:=eL w _;have hz:(w.alloc (T #[U x.name,Q I x.kind,Q I x.code,U x.text,Z a0 x.actN c0,Z a1 x.linksN c1] 58)).heap.size=w.heap.size+1:=by simp
 rw[<-s] at QG X hz;have QQ:=ae (QG.alloc (by omega) (T #[U y.name,Q I y.kind,Q I y.code,U y.text,Z b0 y.actN n,Z f y.linksN m] 58));have Q0:=ae (X.below ((Qs o).alloc lr (T #[U y.name,Q I y.kind,Q I y.code,U y.text,Z b0 y.actN n,Z f y.linksN m] 58)));have QK:Hid (DBx (o.alloc (T #[U y.name,Q I y.kind,Q I y.code,U y.text,Z b0 y.actN n,Z f y.linksN m] 58)) (w.heap.size+1) y b0 n f m):=by rw[<-hz];exact eL o _
 have CP:=ae (fun V (j:Below w.heap.size w V)=>tG a0 x.actN c0 x.act b0 y.actN n y.act V l.1 (K.below j lr) (M.below j lr));have QJ:=ae QN;have R:=ae L;have bt:=l.2;clear K QN M L l QG X;have g:Hid (DeedEq x y->cL x.act y.act x.actN y.actN=QC/\∀ i,i<x.linksN->lv (x.links i) (y.links i)=QC):=fun h=>⟨by simp[cL,h.actN,kN fun i hi=>h.act i (by rw[h.actN];exact hi)],fun i hi=>by rw[h.links i hi];simp[lv]⟩
 have d:Hid (x.name=y.name->x.kind=y.kind->x.code=y.code->x.text=y.text->x.linksN=y.linksN->cL x.act y.act x.actN y.actN=QC->(∀ i,i<x.linksN->lv (x.links i) (y.links i)=QC)->DeedEq x y):=fun h1 h2 h3 h4 h5 O h7=>by simp only[cL,gM,j4] at O;exact⟨h1,h2,h3,h4,O.1,sR O.2,h5,fun i hi=>DV (h7 i hi)⟩
 have C:=ae (zv x y);generalize cL x.act y.act x.actN y.actN=cb at CP g d;generalize DeedEq x y=QP at g d C ⊢;go_enter Tryz.func204,Tryz.ntmps204;go_upto_region 1 with fail;rw[<-s];clear s hz;generalize o.alloc (T #[U y.name,Q I y.kind,Q I y.code,U y.text,Z b0 y.actN n,Z f y.linksN m] 58)=QH at QQ Q0 QK ⊢;obtain⟨G,z0,z1,z2,z3,z4,r⟩:=Q0.cells;obtain⟨B,y0,y1,y2,y3,y4,H⟩:=QK.cells;have hw:=QQ.size;have SQ:Hid (∀ V,Below QH.heap.size QH V->w.heap.size<V.heap.size/\w.heap.size+1<V.heap.size/\V.cell? (J w.heap.size 5 Y)=N (Z a1 x.linksN c1)/\V.cell? (J (w.heap.size+1) 5 Y)=N (Z f y.linksN m)):=fun V j=>⟨ll G j.size,ll B j.size,(j.cell (p:=(J w.heap.size 5 Y)) G).trans r,(j.cell (p:=(J (w.heap.size+1) 5 Y)) B).trans H⟩
 clear Q0 QK;have q:=C.out;clear C;generalize x.links=xl at QJ g d;generalize y.links=yl at R g d;generalize x.name=n1 at z0 d q ⊢;generalize x.kind=k1 at z1 d q ⊢;generalize x.code=g1 at z2 d q ⊢;generalize x.text=t1 at z3 d q ⊢;generalize x.linksN=u at r d q QJ g SQ bt ⊢;generalize y.linksN=m2 at H d q R SQ ⊢;rcases q with ⟨h,QL⟩ | ⟨rfl,h,h',QL⟩ | ⟨rfl,rfl,h,h',QL⟩ | ⟨rfl,rfl,rfl,h,QL⟩ | ⟨rfl,rfl,rfl,rfl,h,QL⟩ | ⟨rfl,rfl,rfl,rfl,rfl⟩
 iterate 5
  ·have z:=ae QL
   clear QL;go_wp2;go_ret;exact⟨D,rfl,⟨nofun,fun e=>(z.out e).elim⟩,QQ⟩
 have HJ:=ae (d.out rfl rfl rfl rfl rfl);clear d;go_wp2_with fail;refine(CP.out QH QQ).mono ?_;rintro e w1 ⟨rfl,hB⟩;have P:=ae (QQ.trans (hB.mono hw));have A:=ae hB;clear hB CP z0 z1 z2 z3 z4 r y0 y1 y2 y3 y4 H G B hw;cases cb with
 | false =>go_wp2;go_ret;exact⟨D,rfl,⟨nofun,fun e=>by have:=(g.out e).1;cases this⟩,P⟩
 | true =>
  go_wp2;go_loopw [5] (fun i wr=>∃ k:Nat,k<=u/\i=Q I k/\Hid (∀ i,i<k->lv (xl i) (yl i)=QC)/\Hid (Below w1.heap.size w1 wr)) (fun i _=>u - (intOf i).toNat);case atStart=>exact⟨0,by omega,rfl,fun i hi=>absurd hi (by omega),eI _ _⟩
  case round =>
   obtain⟨k,hk,rfl,HK,S⟩:=hrel;have QO:=ae (P.trans (S.mono P.size));obtain⟨G,B,r,H⟩:=SQ.out _ (A.trans (S.mono A.size));by_cases t:k<u
   ·rcases QJ.below QO lr with h | ⟨b,off,rfl,hr⟩
    ·omega
    rcases R.below QO lr with h | ⟨b',off',rfl,QM⟩
    ·omega
    obtain⟨e0,e1,e2,e3⟩:=hr.2 k t;obtain⟨g0,g1,g2,g3⟩:=QM.2 k t;have hb:=hr.1;have aq:=QM.1;clear hr QM;have hlt2:(k:Int)<u:=by omega
    have ex:=DW (xl k) (yl k);go_wp2_with fail;go_quiet (fail);have A:=ae (xT S nq);have B2:=ae (xT QO nq);clear e0 e1 e2 e3 g0 g1 g2 g3 ex r H hb aq G B;generalize wr.drewN nq=W at A B2 ⊢;cases hb:lv (xl k) (yl k) with
    | true =>
     have z:=ae hb;clear hb;go_wp2
     exact⟨⟨k+1,by omega,by go_num,(fun i hi=>by
      rcases J4.1 hi with h | rfl
      ·exact HK i h
      ·exact z),A⟩,by simp[intOf];omega⟩
    | false =>have z:=ae hb;clear hb;go_wp2;go_ret;exact⟨D,rfl,⟨nofun,fun e=>by have:=(g.out e).2 k t;rw[z.out] at this;cases this⟩,B2⟩
   ·obtain rfl:k=u:=by omega
    go_wp2;go_ret;exact⟨QC,rfl,⟨fun _=>HJ.out (by simp) HK.out,fun _=>rfl⟩,QO⟩
theorem tH (a:Option Addr)(n c:Nat)(f:Nat->aj)(d:Option Addr)(m l:Nat)(g:Nat->aj)(w:E)(hn:n<=1048576)(G:SlDeed w a n f)(K:SlDeed w d m g)(p:∀ i,i<n->cY (f i)):Calls Tryz.prog 137 #[QE #[Z a n c],QE #[Z d m l]] w fun e H=>Cn (m=n/\∀ i,i<n->DeedEq (f i) (g i)) w e H:=by
 have HF:=ae G;have HG:=ae K;have HM:=ae p;clear G K p;have r:=ae (((Qs w).alloc lr (T #[Z a n c] 50)).alloc (by simp) (T #[Z d m l] 50));have A:Hid (((w.alloc (T #[Z a n c] 50)).alloc (T #[Z d m l] 50)).heap[w.heap.size]?=N (T #[Z a n c] 50 (0,0))):=by show _=_;rw[KE _ _ (by simp)];exact eL w _
 have QP:Hid (((w.alloc (T #[Z a n c] 50)).alloc (T #[Z d m l] 50)).heap[w.heap.size+1]?=N (T #[Z d m l] 50 (0,0))):=KK w _ _;go_enter Tryz.func137,Tryz.ntmps137;go_upto_region 1 with fail;generalize (w.alloc (T #[Z a n c] 50)).alloc (T #[Z d m l] 50)=q at r A QP ⊢;have l0:=aC A.out;have l1:=aC QP.out;have QN:=r.size;have QL:Hid (∀ V,Below q.heap.size q V->V.cell? (J w.heap.size 0 Y)=N (Z a n c)/\V.cell? (J (w.heap.size+1) 0 Y)=N (Z d m l)):=fun V j=>by have B:=(j.block _ l0).trans A.out;have z:=(j.block _ l1).trans QP.out;constructor<;>simp[World.cell?,B,z]
 obtain⟨z0,z1⟩:=QL.out q br;by_cases t:n=m;case neg =>
  have h2:((n:Int) == (m:Int))=D:=by simp;omega
  go_wp2;go_ret;exact⟨D,rfl,⟨nofun,fun h=>absurd h.1.symm t⟩,r⟩
 subst t;go_wp2;clear z0 z1;go_loopw [5] (fun i wr=>∃ k:Nat,k<=n/\i=Q I k/\Hid (∀ i,i<k->DeedEq (f i) (g i))/\Hid (Below q.heap.size q wr)) (fun i _=>n - (intOf i).toNat);case atStart=>exact⟨0,by omega,rfl,fun i hi=>absurd hi (by omega),eI _ _⟩
 case round =>
  obtain⟨k,hk,rfl,QM,s⟩:=hrel;obtain⟨z0,z1⟩:=QL.out _ s.out;have R:=s.size;have QQ:=ae (r.trans (s.mono QN));by_cases o:k<n
  ·rcases HF.below QQ lr with h | ⟨b,off,rfl,C⟩
   ·omega
   rcases HG.below QQ lr with h | ⟨b',off',rfl,y⟩
   ·omega
   obtain⟨B,z,p2,p3,⟨QG,QH,QJ,QO⟩,⟨S,X,p5,O⟩⟩:=C.2 k o;obtain⟨q0,q1,q2,q3,⟨u4,W,q4,M⟩,⟨u5,m5,q5,P⟩⟩:=y.2 k o;have hb:=C.1;have hb':=y.1;have QK:=ae (fun V (j:Below wr.heap.size wr V)=>zx (f k) (g k) QG QH S X u4 W u5 m5 V (HM.out k o) (QO.below j lr) (O.below j lr) (M.below j lr) (P.below j lr));clear C y QO O M P;have hlt2:(k:Int)<n:=by omega
   go_wp2_with fail;go_region_with (go_at_call 204;refine(QK.out _ (by repeat (first | exact eI _ _ | apply Below.drew))).mono ?_;rintro e H ⟨bb,rfl,u,x⟩);all_goals
    have L:=ae (Below.trans (by repeat (first | exact s.out | apply Below.drew)) (x.mono R));have B2:=ae (r.trans (L.mono QN));clear x B z p2 p3 QJ p5 q0 q1 q2 q3 q4 q5 z0 z1;cases bb with
    | true =>
     go_wp2
     exact⟨⟨k+1,by omega,by go_num,(fun i hi=>by
      rcases J4.1 hi with h | rfl
      ·exact QM i h
      ·exact u.1 rfl),L⟩,by simp[intOf];omega⟩
    | false =>go_wp2;go_ret;exact⟨D,rfl,⟨nofun,fun h=>by have:=u.2 (h k o);cases this⟩,B2⟩
  ·obtain rfl:k=n:=by omega
   go_wp2;go_ret;exact⟨QC,rfl,⟨fun _=>QM.out,fun _=>rfl⟩,QQ⟩
end Go.Proofs.YtkdimgejdocbbaaGreatDoor.Vp
