import Derived.Test.YtamacmnikdejeaaGreatDoorYA
import Derived.Test.YtamacmnikdejeaaGreatDoorZG
set_option maxRecDepth 100000
set_option maxHeartbeats 4000000
open Go.Addr renaming mk->T
open Go.Value renaming slice->Y
open Option renaming none->Z,some->N
open Go.Obj renaming cells->Q
open Go.IntKind renaming i64->J
open Go renaming World->H,Value->QS
open Bool renaming false->QQ,true->QR
open Go.Ending renaming returned->QU
namespace Go.Proofs.YtamacmnikdejeaaGreatDoor.Vp
open RowKit Go.Maps
def gP (t u:Told):Bool:=if t.kind == 0 || u.kind == 0 then !(t.kind == 2) && !(u.kind == 2) else t.kind == u.kind && t.text.toList == u.text.toList && t.act == u.act
theorem Ep (x y:Told)(w:H):(binOp .eql 169 (.agg #[.int J x.kind,.string x.text,.int J x.act]) (.agg #[.int J y.kind,.string y.text,.int J y.act])).run Tryz.prog w=.ok (.bool (x.kind == y.kind && x.text.toList == y.text.toList && x.act == y.act)) w:=by
 have f:Tryz.prog.underlying 169=N (.struct (Tryz.prog.fieldsOf 169)):=by kernel_rfl
 have b:Tryz.prog.stoodInHeld 169=QQ:=by kernel_rfl
 rw[run_eql_struct,show(10000:Nat)=9999+1 from rfl,run_equalIn_agg w 9999 169 _ _ f b];simp only[Program.fieldsOf,Tryz.underlying169];go_simp;by_cases h1:x.kind=y.kind<;>by_cases h2:x.text.toList=y.text.toList<;>by_cases c:x.act=y.act<;>simp[h1,h2,c]
theorem Br (k:Int)(x:ByteArray)(p:Int)(l:Int)(y:ByteArray)(q:Int):gP ⟨k,x,p⟩ ⟨l,y,q⟩=if k == 0 || l == 0 then !(k == 2) && !(l == 2) else k == l && x.toList == y.toList && p == q:=rfl
theorem tm (t u:Told)(w:H):Calls Tryz.prog 99 #[.agg #[.int J t.kind,.string t.text,.int J t.act],.agg #[.int J u.kind,.string u.text,.int J u.act]] w fun e n=>e=QU (.bool (gP t u))/\Below w.heap.size w n:=by
 have c:=ae (((q9 w).alloc ly (Q #[.int J t.kind,.string t.text,.int J t.act] 169)).alloc (by simp) (Q #[.int J u.kind,.string u.text,.int J u.act] 169));have j:=Ep t u;obtain⟨k,x,p⟩:=t;obtain⟨l,y,q⟩:=u;have f:=ae (Br k x p l y q);generalize gP ⟨k,x,p⟩ ⟨l,y,q⟩=r at f ⊢;dsimp only at j c ⊢;by_cases h1:k=0
 ·subst h1
  by_cases h2:l=2
  ·subst h2
   have b:=ae (show r=QQ from f.out);go_enter Tryz.func99,Tryz.ntmps99;go_wp2;go_ret;exact⟨bm b.out.symm,c.out⟩
  ·have g:(l == 2)=QQ:=by simpa using h2
   have m:(l != 2)=QR:=by simpa using h2
   have b:=ae (show r=QR by have:=f.out;rw[g] at this;exact this);go_enter Tryz.func99,Tryz.ntmps99;go_wp2;go_ret;exact⟨bm b.out.symm,c.out⟩
 ·have i:(k == 0)=QQ:=by simpa using h1
  by_cases h:l=0
  ·subst h
   by_cases h2:k=2
   ·subst h2
    have b:=ae (show r=QQ from f.out);go_enter Tryz.func99,Tryz.ntmps99;go_wp2;go_ret;exact⟨bm b.out.symm,c.out⟩
   ·have g:(k == 2)=QQ:=by simpa using h2
    have m:(k != 2)=QR:=by simpa using h2
    have b:=ae (show r=QR by have:=f.out;rw[g,i] at this;exact this);go_enter Tryz.func99,Tryz.ntmps99;go_wp2;go_ret;exact⟨bm b.out.symm,c.out⟩
  ·have o:(l == 0)=QQ:=by simpa using h
   have b:=ae (show r=(k == l && x.toList == y.toList && p == q) by have:=f.out;rw[i,o] at this;simpa using this);go_enter Tryz.func99,Tryz.ntmps99;go_wp2;go_ret;exact⟨bm b.out.symm,c.out⟩
theorem SetO.below {w f:H}{c:Option Nat}{n B:Nat}{S:Told->Prop}(h:SetO w c n S)(hb:Below B w f)(g:w.heap.size<=B):SetO f c n S:=by
 cases c with
 | none=>exact h
 | some b=>exact SetT.blk h (hb.block b (lj (SetT.lt h) g))
theorem cO {w b:H}{row:Option Nat}{B:Nat}(h:w.grownBy b row)(hB:B<=w.heap.size)(c:∀ j,row=N j->B<=j):Below B w b :=
 ⟨h.os,h.tape,h.output,h.size,fun k hk=>h.block k (by omega) (fun e=>by have:=c k e.symm;omega)⟩
theorem Bs (i g:Option Nat)(n1 Q9:Nat)(s n:Told->Prop)(w:H)(h1:SetO w i n1 s)(h2:SetO w g Q9 n):Calls Tryz.prog 51 #[.map i,.map g] w fun e w'=>∃ r:Bool,e=QU (.bool r)/\(r=QR ↔ ∃ t u,s t/\n u/\gP t u=QQ)/\Below w.heap.size w w':=by
 have H1:=ae h1;have H2:=ae h2;clear h1 h2;go_enter Tryz.func51,Tryz.ntmps51
 go_wp2_with (first
  | (at_range;refine re _ rfl _ rfl i n1 s rfl H1.out ?_;intro w0 cnt0 K X hs0)
  | go_in)
 go_frame;have G0:=ae (cO X ly (fun j q=>by cases q));have R0:=ae K;clear K X;go_loopw [9] (fun _ wr=>∃ L cnt,Hid (RgT wr i w.heap.size n1 s L cnt)/\Hid (Below w.heap.size w wr)/\Hid (∀ t,s t->L t∨∀ u,n u->gP t u=QR)) (fun _ wr=>jB wr i w.heap.size);case atStart=>exact⟨_,_,R0.out,G0.out,fun t ht=>.inl ht⟩
 case round =>
  obtain⟨L,cnt,HR,HB,HL⟩:=hrel
  go_wp2_with (first
   | (at_next;refine tl _ rfl _ rfl i w.heap.size n1 s L cnt rfl HR.out ?_ ?_)
   | go_in)
  ·intro f
   go_wp2;go_ret;refine⟨QQ,rfl,⟨(fun h=>by cases h),fun⟨t,u,ht,QZ,E⟩=>?_⟩,HB.out⟩;rcases HL.out t ht with h | h
   ·exact absurd h (f t)
   ·rw[h u QZ] at E
    cases E
  ·intro t c F n8 hLt l O QX ld hen1
   have R1:=ae l;have B1:=ae (HB.out.trans (cO (B:=w.heap.size) QX HB.out.size (fun j q=>by cases q;exact j5 _)));have M1:=ae (show jB c i w.heap.size<jB wr i w.heap.size by rw[l.left_eq,HR.out.left_eq];exact O);have N1:=ae (show w.heap.size<c.heap.size from l.lt.1);clear l QX ld O;have C:=ae (B1.out.alloc B1.out.size (Q #[.int J t.kind,.string t.text,.int J t.act] 169));have k0:(c.alloc (Q #[.int J t.kind,.string t.text,.int J t.act] 169)).cell? (T c.heap.size 0 Z)=N (.int J t.kind):=by simp[go_sem]
   have k1:(c.alloc (Q #[.int J t.kind,.string t.text,.int J t.act] 169)).cell? (T c.heap.size 1 Z)=N (.string t.text):=by simp[go_sem]
   have k2:(c.alloc (Q #[.int J t.kind,.string t.text,.int J t.act] 169)).cell? (T c.heap.size 2 Z)=N (.int J t.act):=by simp[go_sem]
   have E2:=ae (show(c.alloc (Q #[.int J t.kind,.string t.text,.int J t.act] 169)).heap.size=c.heap.size+1 by simp)
   have R:=ae (show RgT (c.alloc (Q #[.int J t.kind,.string t.text,.int J t.act] 169)) i w.heap.size n1 s (fun u=>L u/\u≠t) F from
    R1.out.blk (fun b hb=>(J5 c _).2 b (R1.out.lt.2 b hb).1) ((J5 c _).2 _ N1.out))
   have QY:=ae (H2.out.below C.out ly)
   go_wp2_with (first
    | (at_range;generalize c.alloc (Q #[.int J t.kind,.string t.text,.int J t.act] 169)=W at C k0 k1 k2 E2 R QY ⊢;refine re _ rfl _ rfl g Q9 n rfl QY.out ?_;intro w3 cnt3 G V hs3)
    | go_in)
   go_frame;have G3:=ae (cO V ly (fun j q=>by cases q));have R3:=ae G;clear G V;go_loopw [15] (fun _ S=>∃ ZB y,Hid (RgT S g W.heap.size Q9 n ZB y)/\Hid (Below W.heap.size W S)/\Hid (∀ u,n u->ZB u∨gP t u=QR)) (fun _ S=>jB S g W.heap.size);case atStart=>exact⟨_,_,R3.out,G3.out,fun u QZ=>.inl QZ⟩
   case round =>
    obtain⟨ZB,y,fd,m,bt⟩:=hrel
    go_wp2_with (first
     | (at_next;refine tl _ rfl _ rfl g W.heap.size Q9 n ZB y rfl fd.out ?_ ?_)
     | go_in)
    ·intro f
     have f:=ae f;go_wp2;have D:=ae (R.out.blk (fun b hb=>m.out.block b (R.out.lt.2 b hb).1) (m.out.block _ R.out.lt.1));refine⟨⟨_,F,D.out,C.out.trans (m.out.mono C.out.size),fun x hx=>?_⟩,?_⟩
     ·rcases HL.out x hx with h | h
      ·by_cases e:x=t
       ·subst e
        exact .inr fun u QZ=>(bt.out u QZ).resolve_left (f.out u)
       ·exact .inl ⟨h,e⟩
      ·exact .inr h
     ·have:=M1.out
      rw[R1.out.left_eq] at this;rw[D.out.left_eq];exact this
    ·intro u Q2 M la hLu z ZA aq mv hen4
     have Q0:=ae z;have B4:=ae (m.out.trans (cO (B:=W.heap.size) aq m.out.size (fun j q=>by cases q;exact j5 _)));have M4:=ae (show jB Q2 g W.heap.size<jB wr g W.heap.size by rw[z.left_eq,fd.out.left_eq];exact ZA);clear z aq mv ZA;have o:=ae (B4.out.alloc B4.out.size (Q #[.int J u.kind,.string u.text,.int J u.act] 169));have A:c.heap.size<W.heap.size:=by rw[E2.out];omega
     have p0:=(o.out.cell (p:=(T c.heap.size 0 Z)) A).trans k0;have p1:=(o.out.cell (p:=(T c.heap.size 1 Z)) A).trans k1;have p2:=(o.out.cell (p:=(T c.heap.size 2 Z)) A).trans k2
     have D:=ae (show RgT (Q2.alloc (Q #[.int J u.kind,.string u.text,.int J u.act] 169)) g W.heap.size Q9 n (fun x=>ZB x/\x≠u) M from
      Q0.out.blk (fun b hb=>(J5 Q2 _).2 b (Q0.out.lt.2 b hb).1) ((J5 Q2 _).2 _ Q0.out.lt.1))
     clear k0 k1 k2 A;go_wp2_with (go_at_call 99;refine(tm t u _).mono ?_;rintro e w6 ⟨rfl,QW⟩;have P:=ae QW;clear QW)
     ·rename_i hb
      have E:gP t u=QQ:=by simpa using hb
      go_ret;exact⟨QR,rfl,⟨fun _=>⟨t,u,n8,la,E⟩,fun _=>rfl⟩,C.out.trans ((o.out.trans (P.out.mono o.out.size)).mono C.out.size)⟩
     ·rename_i hb
      have E:gP t u=QR:=by simpa using hb
      have R6:=ae (D.out.blk (fun b hb=>P.out.block b (D.out.lt.2 b hb).1) (P.out.block _ D.out.lt.1));refine⟨⟨_,M,R6.out,o.out.trans (P.out.mono o.out.size),fun x hx=>?_⟩,?_⟩
      ·rcases bt.out x hx with h | h
       ·by_cases e:x=u
        ·subst e
         exact .inr E
        ·exact .inl ⟨h,e⟩
       ·exact .inr h
      ·have:=M4.out
       rw[Q0.out.left_eq] at this;rw[R6.out.left_eq];exact this
theorem oG (w:H):(zeroValue 103).run Tryz.prog w=.ok (.map Z) w:=by kernel_rfl
structure KM (lo:Nat)(w w':H):Prop where
 below:Below lo w w'
 blk:∀ i,i<w.heap.size->(∀ es c,w.heap[i]?≠N (.map es c))->w'.heap[i]?=w.heap[i]?
theorem KM.refl (lo:Nat)(w:H):KM lo w w:=⟨eL _ _,fun _ _ _=>rfl⟩
theorem KM.trans {lo:Nat}{w g b:H}(h:KM lo w g)(k:KM lo g b):KM lo w b :=
 ⟨h.below.trans k.below,fun i hi f=>by
  have h1:=h.blk i hi f;rw[<-h1]
  exact k.blk i (lj hi h.below.size) (fun j c=>by rw[h1];exact f j c)⟩
theorem KM.of_grown {lo b:Nat}{w l:H}(h:w.grownBy l (N b))(g:lo<=w.heap.size)(hb:lo<=b)(m:b<w.heap.size->∃ f c,w.heap[b]?=N (.map f c)):KM lo w l :=
 ⟨cO h g (fun j o=>by cases o;exact hb),fun i hi hn=>h.block i hi (fun e=>by
  cases e
  obtain⟨f,c,n⟩:=m hi
  exact hn f c n)⟩
theorem KM.alloc {lo:Nat}(w:H)(o:Obj)(b:lo<=w.heap.size):KM lo w (w.alloc o) :=
 ⟨br.alloc b o,fun i hi _=>(J5 w o).2 i hi⟩
theorem KM.cell {lo:Nat}{w g:H}(h:KM lo w g){p:Addr}{v:QS}(b:w.cell? p=N v):g.cell? p=N v:=by
 cases hb:w.heap[p.block]? with
 | none=>simp[World.cell?,hb] at b
 | some o =>have f:p.block<w.heap.size:=(nX.1 hb).1;refine(cj (h.blk _ f fun es c e=>?_)).trans b;simp[World.cell?,e] at b
structure TaleG (w:H)(lo tb n:Nat)(G:List UInt8->Option Nat)(Q2:List UInt8->Told->Prop):Prop where
 map:MapN w tb n (fun s=>(G s).map fun b=>.map (N b))
 ge:lo<=tb
 no:∀ s,G s=Z->∀ t,¬ Q2 s t
 set:∀ s b,G s=N b->SetT w b n (Q2 s)/\lo<=b/\b≠tb
 inj:∀ s s' b,G s=N b->G s'=N b->s=s'
def Tale (w:H)(lo b n:Nat)(Q2:List UInt8->Told->Prop):Prop:=∃ G,TaleG w lo b n G Q2
theorem Bt (w:H){lo:Nat}(h:lo<=w.heap.size):Tale (w.alloc (.map #[] 0)) lo w.heap.size 0 (fun _ _=>False) :=
 ⟨fun _=>Z,te w,h,fun _ _ _ h=>h,fun _ _ h=>by simp at h,fun _ _ _ h=>by simp at h⟩
theorem TaleG.blk {w w':H}{lo f n:Nat}{G:List UInt8->Option Nat}{Q2:List UInt8->Told->Prop}(h:TaleG w lo f n G Q2)(hb:∀ i,lo<=i->i<w.heap.size->(∃ j c,w.heap[i]?=N (.map j c))->w'.heap[i]?=w.heap[i]?):TaleG w' lo f n G Q2 :=
 ⟨h.map.blk (hb _ h.ge h.map.lt h.map.isMap),h.ge,h.no,fun s b g=>by
  obtain⟨h1,h2,l⟩:=h.set s b g
  exact⟨h1.blk (hb _ h2 h1.lt h1.isMap),h2,l⟩,h.inj⟩
theorem Tale.blk {w w':H}{lo b n:Nat}{Q2:List UInt8->Told->Prop}(h:Tale w lo b n Q2)(hb:∀ i,lo<=i->i<w.heap.size->(∃ g c,w.heap[i]?=N (.map g c))->w'.heap[i]?=w.heap[i]?):Tale w' lo b n Q2 :=
 h.elim fun G f=>⟨G,f.blk hb⟩
theorem TaleG.mono {w:H}{lo c n f:Nat}{G:List UInt8->Option Nat}{Q2:List UInt8->Told->Prop}(h:TaleG w lo c n G Q2)(hn:n<=f):TaleG w lo c f G Q2 :=
 ⟨h.map.mono hn,h.ge,h.no,fun s b g=>by
  obtain⟨h1,h2,i⟩:=h.set s b g
  exact⟨h1.mono hn,h2,i⟩,h.inj⟩
theorem Tale.congr {w:H}{lo c n:Nat}{Q2 b:List UInt8->Told->Prop}(h:Tale w lo c n Q2)(f:∀ s t,Q2 s t ↔ b s t):Tale w lo c n b:=by obtain rfl:Q2=b:=funext fun s=>funext fun t=>propext (f s t);exact h
theorem TaleG.told {w o:H}{lo m n b:Nat}{G:List UInt8->Option Nat}{Q2:List UInt8->Told->Prop}{c:List UInt8}{x:Told}(h:TaleG w lo m n G Q2)(z:MapN o m (n+1) (fun s=>(if s=c then N b else G s:Option Nat).map fun b=>.map (N b)))
  (u:SetT o b (n+1) (fun t=>t=x∨Q2 c t)) (hb:lo<=b) (r:b≠m) (l:∀ s,s≠c->G s≠N b) (A:∀ s f,s≠c->G s=N f->o.heap[f]?=w.heap[f]?):Tale o lo m (n+1) (fun s t=>(s=c/\t=x)∨Q2 s t):=by
 refine⟨fun s=>if s=c then N b else G s,z,h.ge,fun s hn t j=>?_,fun s f g=>?_,fun s q f h1 h2=>?_⟩
 ·by_cases e:s=c
  ·simp[e] at hn
  ·simp only[e,PC] at hn
   rcases j with j | j
   ·exact e j.1
   ·exact h.no s hn t j
 ·by_cases e:s=c
  ·simp only[e,QE,JL] at g
   subst g;have p:(fun t=>t=x∨Q2 c t)=fun t=>(s=c/\t=x)∨Q2 s t:=funext fun t=>propext ⟨fun h=>h.elim (fun h=>.inl ⟨e,h⟩) (fun h=>.inr (e ▸ h)),fun h=>h.elim (fun h=>.inl h.2) (fun h=>.inr (e ▸ h))⟩;exact⟨p ▸ u,hb,r⟩
  ·simp only[e,PC] at g
   obtain⟨h1,h2,y⟩:=h.set s f g;have p:Q2 s=fun t=>(s=c/\t=x)∨Q2 s t:=funext fun t=>propext ⟨.inr,fun h=>h.elim (fun h=>absurd h.1 e) id⟩;exact⟨p ▸ (h1.blk (A s f e g)).mono (vF _),h2,y⟩
 ·by_cases e:s=c<;>by_cases i:q=c
  ·rw[e,i]
  ·simp only[e,QE,JL] at h1
   simp only[i,PC] at h2;exact absurd (h1 ▸ h2) (l q i)
  ·simp only[i,QE,JL] at h2
   simp only[e,PC] at h1;exact absurd (h2 ▸ h1) (l s e)
  ·simp only[e,PC] at h1
   simp only[i,PC] at h2;exact h.inj s q f h1 h2
theorem Bu (lo f n b:Nat)(G:List UInt8->Option Nat)(Q2:List UInt8->Told->Prop)(name:ByteArray)(x:Told)(w:H)(hn:(n:Int)<=1000000)(F:name.size<=maxLen)(E:TOk x)(l:lo<=w.heap.size)(h:TaleG w lo f n G Q2)(y:G name.toList=N b):Calls Tryz.prog 96 #[.map (N f),.string name,tv x] w fun e A=>e=QU (.tuple #[])/\Tale A lo f (n+1) (fun s t=>(s=name.toList/\t=x)∨Q2 s t)/\KM lo w A:=by
 have D:=ae (KM.alloc w (Q #[.int J x.kind,.string x.text,.int J x.act] 169) l);have c:=ae (h.blk (w':=w.alloc (Q #[.int J x.kind,.string x.text,.int J x.act] 169)) (fun i _ hi _=>(J5 w _).2 i hi));have ZB:=ae E;have Q9:=ae (show((G name.toList).map fun b=>Value.map (N b)).getD (.map Z)=.map (N b) by rw[y];rfl);have g:=ae y;clear h y E;have hz:=oG;have qT:∀ (w:H) (r:Option Nat),(binOp .eql 103 (.map r) (.map Z)).run Tryz.prog w=.ok (.bool r.isNone) w:=fun w r=>run_eql_map_nil w _ _ _ r Tryz.underlying103;show Calls Tryz.prog 96 #[.map (N f),.string name,.agg #[.int J x.kind,.string x.text,.int J x.act]] w _;go_enter Tryz.func96,Tryz.ntmps96
 go_wp2_with (first
  | (at_lookup;refine fi _ rfl _ _ 98 rfl 103 Tryz.underlying98 (hz _) f n _ rfl c.out.map name rfl F _ Q9.out ?_)
  | (go_at_call 142;refine(tj b n (Q2 name.toList) x _ (by omega) ZB.out (c.out.set _ b g.out).1).mono ?_;rintro e w2 ⟨rfl,o,m⟩;have ZA:=ae o;have u:=ae m;clear o m))
 go_end0;obtain⟨C,j,p⟩:=c.out.set _ b g.out;refine⟨rfl,c.out.told ?_ ZA.out j p (fun s z e=>z (c.out.inj _ _ b e g.out)) (fun s B z q=>u.out.block B (c.out.set s B q).1.lt (fun e=>z (c.out.inj _ _ B q (g.out.trans e.symm)))),D.out.trans (KM.of_grown u.out (j4 l D.out.below.size) j (fun _=>C.isMap))⟩;refine((c.out.map.blk (u.out.block f c.out.map.lt (fun e=>p (by cases e;rfl)))).mono (vF n)).congr fun s=>?_;by_cases e:s=name.toList
 ·rw[gA e,e,g.out]
 ·rw[eI e]
theorem xz (lo f n:Nat)(G:List UInt8->Option Nat)(Q2:List UInt8->Told->Prop)(name:ByteArray)(x:Told)(w:H)(hn:(n:Int)<=1000000)(m:name.size<=maxLen)(L:TOk x)(A:lo<=w.heap.size)(h:TaleG w lo f n G Q2)(F:G name.toList=Z):Calls Tryz.prog 96 #[.map (N f),.string name,tv x] w fun e u=>e=QU (.tuple #[])/\Tale u lo f (n+1) (fun s t=>(s=name.toList/\t=x)∨Q2 s t)/\KM lo w u:=by
 have ZA:=ae (KM.alloc w (Q #[.int J x.kind,.string x.text,.int J x.act] 169) A);have c:=ae (h.blk (w':=w.alloc (Q #[.int J x.kind,.string x.text,.int J x.act] 169)) (fun i _ hi _=>(J5 w _).2 i hi));have z:(w.alloc (Q #[.int J x.kind,.string x.text,.int J x.act] 169)).cell? (T w.heap.size 0 Z)=N (.int J x.kind)/\(w.alloc (Q #[.int J x.kind,.string x.text,.int J x.act] 169)).cell? (T w.heap.size 1 Z)=N (.string x.text)/\(w.alloc (Q #[.int J x.kind,.string x.text,.int J x.act] 169)).cell? (T w.heap.size 2 Z)=N (.int J x.act):=by simp[go_sem]
 have M:=ae (show w.heap.size<(w.alloc (Q #[.int J x.kind,.string x.text,.int J x.act] 169)).heap.size by simp);have l:=ae z;have j:=ae (j4 A ZA.out.below.size);have QY:=ae L;have QX:=ae (show((G name.toList).map fun b=>Value.map (N b)).getD (.map Z)=.map Z by rw[F];rfl);have S:=ae F;clear h F L z;have hz:=oG;have qT:∀ (w:H) (r:Option Nat),(binOp .eql 103 (.map r) (.map Z)).run Tryz.prog w=.ok (.bool r.isNone) w:=fun w r=>run_eql_map_nil w _ _ _ r Tryz.underlying103;have hmm:=@QN Tryz.prog;show Calls Tryz.prog 96 #[.map (N f),.string name,.agg #[.int J x.kind,.string x.text,.int J x.act]] w _;go_enter Tryz.func96,Tryz.ntmps96
 go_wp2_with (first
  | (at_lookup;generalize w.alloc (Q #[.int J x.kind,.string x.text,.int J x.act] 169)=W at ZA c l M j ⊢;generalize w.heap.size=bx at l M ⊢;have K:=ae (c.out.blk (w':=W.alloc (.map #[] 0)) (fun i _ hi _=>(J5 W _).2 i hi));have g:=ae (KM.alloc W (.map #[] 0) j.out);have Q0:=ae (Bq W);refine fi _ rfl _ _ 98 rfl 103 Tryz.underlying98 (hz _) f n _ rfl c.out.map name rfl m _ QX.out ?_)
  | (at_mapUpdate;refine pp _ rfl _ _ _ 98 rfl 103 Tryz.underlying98 f n _ rfl K.out.map (by unfold maxLen;omega) name (.map (N W.heap.size)) rfl rfl m ?_;intro w2 E B;have Q9:=ae E;have q:=ae B;clear E B;have o:=ae (KM.of_grown q.out (j4 j.out g.out.below.size) c.out.ge (fun _=>K.out.map.isMap));have QZ:=ae (Q0.out.blk (q.out.block W.heap.size (by simp) (fun e=>by have:=c.out.map.lt;cases e;omega)));have c0:=o.out.cell (g.out.cell l.out.1);have c1:=o.out.cell (g.out.cell l.out.2.1);have c2:=o.out.cell (g.out.cell l.out.2.2))
  | (at_lookup;refine fi _ rfl _ _ 98 rfl 103 Tryz.underlying98 (hz _) f (n+1) _ rfl Q9.out name rfl m (.map (N W.heap.size)) (by rw[gA rfl];rfl) ?_)
  | (go_at_call 142;refine(tj W.heap.size 0 (fun _=>False) x _ (by omega) QY.out QZ.out).mono ?_;rintro e w3 ⟨rfl,C,y⟩;have R:=ae C;have ZB:=ae y;clear C y))
 go_end0;have hlt:=c.out.map.lt;refine⟨rfl,c.out.told (b:=W.heap.size) ?_ ?_ j.out (fun e=>by omega) (fun s V e=>by have:=(c.out.set s _ e).1.lt;omega) (fun s p V P=>?_),ZA.out.trans (g.out.trans (o.out.trans (KM.of_grown ZB.out (j4 (j4 j.out g.out.below.size) o.out.below.size) j.out (fun _=>QZ.out.isMap))))⟩
 ·refine(Q9.out.blk (ZB.out.block f Q9.out.lt (fun e=>by cases e;omega))).congr fun s=>?_
  by_cases e:s=name.toList
  ·rw[gA e,gA e];rfl
  ·rw[eI e,eI e]
 ·have X:(fun t=>t=x∨False)=fun t=>t=x∨Q2 name.toList t:=funext fun t=>propext ⟨fun h=>.inl (h.resolve_right id),fun h=>h.elim .inl (fun h=>absurd h (c.out.no _ S.out t))⟩
  exact X ▸ (R.out.mono (by omega))
 ·obtain⟨h1,h2,QW⟩:=c.out.set s p P
  have O:=h1.lt;have D:p < (W.alloc (.map #[] 0)).heap.size:=lj O g.out.below.size;rw[ZB.out.block p (lj D q.out.size) (fun e=>by cases e;omega),q.out.block p D (fun e=>QW (by cases e;rfl))];exact(J5 W _).2 p O
theorem tp (lo c n:Nat)(Q2:List UInt8->Told->Prop)(name:ByteArray)(x:Told)(w:H)(hn:(n:Int)<=1000000)(f:name.size<=maxLen)(i:TOk x)(g:lo<=w.heap.size)(h:Tale w lo c n Q2):Calls Tryz.prog 96 #[.map (N c),.string name,tv x] w fun e l=>e=QU (.tuple #[])/\Tale l lo c (n+1) (fun s t=>(s=name.toList/\t=x)∨Q2 s t)/\KM lo w l:=by
 obtain⟨G,j⟩:=h;cases e:G name.toList with
 | none=>exact xz lo c n G Q2 name x w hn f i g j e
 | some b=>exact Bu lo c n b G Q2 name x w hn f i g j e
abbrev aQ:=Nat × (Nat->Ins)
def dC (q p:aQ):Bool:=bu q.2 p.2 q.1 p.1
def numOf (b:List aQ)(p:aQ):Nat:=b.findIdx fun q=>dC q p
def jW (b:List aQ)(p:aQ):List aQ:=if numOf b p<b.length then b else b++[p]
def ij (K:List UInt8->List aQ)(b:List UInt8)(p:aQ):List UInt8->List aQ:=fun s=>if s=b then jW (K s) p else K s
theorem tq (b:List aQ)(p:aQ):numOf b p<=b.length:=List.findIdx_le_length
theorem xA {b:List aQ}{p q:aQ}{k:Nat}(g:b[k]?=N q)(c:dC q p=QR)(hb:∀ j r,j<k->b[j]?=N r->dC r p=QQ):numOf b p=k:=by obtain⟨f,rfl⟩:=gM.1 g;refine(List.findIdx_eq f).2 ⟨c,fun j h=>?_⟩;exact hb j _ h (gq (by omega))
theorem xB {b:List aQ}{p:aQ}(hb:∀ j r,j<b.length->b[j]?=N r->dC r p=QQ):numOf b p=b.length:=by refine List.findIdx_eq_length_of_false fun q f=>?_;obtain⟨j,c,rfl⟩:=NP.1 f;exact hb j _ c (gq c)
structure KA (B kb:Nat)(w w':H):Prop where
 below:Below B w w'
 blk:∀ i,i<w.heap.size->i≠kb->(∀ cs fz,w.heap[i]?≠N (Q cs 43 fz))->w'.heap[i]?=w.heap[i]?
theorem KA.trans {B kb:Nat}{w j b:H}(h:KA B kb w j)(k:KA B kb j b):KA B kb w b :=
 ⟨h.below.trans k.below,fun i hi f g=>by
  have h1:=h.blk i hi f g;rw[<-h1]
  exact k.blk i (lj hi h.below.size) f (fun l c=>by rw[h1];exact g l c)⟩
theorem KA.of_below {B kb C:Nat}{w b:H}(h:Below C w b)(c:w.heap.size<=C)(f:B<=w.heap.size):KA B kb w b :=
 ⟨h.mono (j4 f c),fun i hi _ _=>h.block i (lj hi c)⟩
theorem KA.of_grown {B kb:Nat}{row:Option Nat}{w f:H}(h:w.grownBy f row)(m:B<=w.heap.size)(c:∀ j,row=N j->B<=j/\(j=kb∨∃ b fz,w.heap[j]?=N (Q b 43 fz))):KA B kb w f :=
 ⟨cO h m (fun j n=>(c j n).1),fun i hi l g=>h.block i hi (fun e=>by
  rcases(c i e.symm).2 with h1 | ⟨b,fz,h1⟩
  ·exact l h1
  ·exact g b fz h1)⟩
structure ActsV (w0 w:H)(kb n:Nat)(V:List UInt8->QS)(K:List UInt8->List aQ):Prop where
 map:MapN w kb n (fun s=>if (K s).isEmpty=QR then Z else N (V s))
 ge:w0.heap.size<=kb
 row:∀ s,∃ cs,w.ownsRow w0.heap.size 43 1 (V s) (K s).length cs/\∀ (i:Nat) (p:aQ),(K s)[i]?=N p->∃ a c,cs[i]?=N (Value.slice a p.1 c)/\SlIns w0 a p.1 p.2/\p.1<=1048576
 nil:∀ s,(K s).isEmpty=QR->V s=Y Z 0 0
 len:∀ s,(K s).length<=n
 inj:∀ s s' g,(V s).ownBlock=N g->(V s').ownBlock=N g->s=s'
def Acts (c w:H)(b n:Nat)(K:List UInt8->List aQ):Prop:=∃ V,ActsV c w b n V K
theorem je {w:H}{b size n:Nat}{e:TypeId}{v:QS}{l:List QS}(h:w.ownsRow b e size v n l):∀ k,v.ownBlock=N k->b<=k/\k<w.heap.size/\∃ j fz,w.heap[k]?=N (Q j e fz):=by
 intro k c;rcases h.2 with ⟨rfl,_⟩ | ⟨g,cap,i,rfl,hb,f,_⟩
 ·simp[Value.ownBlock] at c
 ·simp[Value.ownBlock] at c
  subst c;exact⟨hb,(nX.1 f).1,i,_,f⟩
theorem pr {w f:H}{b size n:Nat}{e:TypeId}{v:QS}{l:List QS}(h:w.ownsRow b e size v n l)(hb:∀ k,v.ownBlock=N k->f.heap[k]?=w.heap[k]?):f.ownsRow b e size v n l:=by
 refine⟨h.1,?_⟩;rcases h.2 with hn | ⟨g,cap,c,rfl,j,i,rest⟩
 ·exact .inl hn
 ·exact .inr ⟨g,cap,c,rfl,j,(hb g rfl).trans i,rest⟩
theorem tr {w:H}{b size n:Nat}{e:TypeId}{v:QS}{f:List QS}(h:w.ownsRow b e size v n f):∃ a cap,v=Y a n cap:=by
 rcases h.2 with ⟨h1,h2⟩ | ⟨g,c,cur,h1,_⟩
 ·exact⟨Z,0,by rw[h1,h2]⟩
 ·exact⟨_,_,h1⟩
theorem Bv (w:H):Acts w (w.alloc (.map #[] 0)) w.heap.size 0 (fun _=>[]) :=
 ⟨fun _=>Y Z 0 0,(te w).congr fun s=>by simp,j5 _,fun s=>⟨[],CP _ _ _ _,fun i p h=>by simp at h⟩,fun _ _=>rfl,fun _=>j5 _,fun _ _ _ h=>by simp[Value.ownBlock] at h⟩
theorem ActsV.below {c w g:H}{b n B:Nat}{V:List UInt8->QS}{K:List UInt8->List aQ}(h:ActsV c w b n V K)(hb:Below B w g)(f:w.heap.size<=B):ActsV c g b n V K :=
 ⟨h.map.blk (hb.block _ (lj h.map.lt f)),h.ge,fun s=>by
  obtain⟨i,h1,h2⟩:=h.row s
  exact⟨i,own_below h1 hb f,h2⟩,h.nil,h.len,h.inj⟩
theorem ActsV.km {j w l:H}{lo b n:Nat}{V:List UInt8->QS}{K:List UInt8->List aQ}(h:ActsV j w b n V K)(i:KM lo w l)(g:b<lo):ActsV j l b n V K :=
 ⟨h.map.blk (i.below.block _ g),h.ge,fun s=>by
  obtain⟨p,h1,h2⟩:=h.row s
  exact⟨p,pr h1 (fun k f=>by
   obtain⟨_,o,cs',fz,m⟩:=je h1 k f
   exact i.blk k o (fun es c e=>by rw[m] at e;cases e)),h2⟩,h.nil,h.len,h.inj⟩
theorem Acts.km {f w g:H}{lo b n:Nat}{K:List UInt8->List aQ}(h:Acts f w b n K)(i:KM lo w g)(c:b<lo):Acts f g b n K:=h.elim fun V j=>⟨V,j.km i c⟩
theorem Acts.below {c w f:H}{b n B:Nat}{K:List UInt8->List aQ}(h:Acts c w b n K)(hb:Below B w f)(g:w.heap.size<=B):Acts c f b n K:=h.elim fun V i=>⟨V,i.below hb g⟩
theorem ActsV.mono {c w:H}{b n f:Nat}{V:List UInt8->QS}{K:List UInt8->List aQ}(h:ActsV c w b n V K)(hn:n<=f):ActsV c w b f V K :=
 ⟨h.map.mono hn,h.ge,h.row,h.nil,fun s=>j4 (h.len s) hn,h.inj⟩
theorem Acts.mono {c w:H}{b n f:Nat}{K:List UInt8->List aQ}(h:Acts c w b n K)(hn:n<=f):Acts c w b f K:=h.elim fun V g=>⟨V,g.mono hn⟩
theorem Acts.lt {f w:H}{b n:Nat}{K:List UInt8->List aQ}(h:Acts f w b n K):b<w.heap.size:=by obtain⟨_,c⟩:=h;exact c.map.lt
theorem ActsV.look {c w:H}{b n:Nat}{V:List UInt8->QS}{K:List UInt8->List aQ}(h:ActsV c w b n V K)(s:List UInt8):(if (K s).isEmpty=QR then Z else N (V s):Option QS).getD (Y Z 0 0)=V s:=by
 by_cases e:(K s).isEmpty=QR
 ·rw[gA e,h.nil s e];rfl
 ·rw[eI e];rfl
theorem zx {K:List UInt8->List aQ}{s:List UInt8}{p:aQ}(h:numOf (K s) p<(K s).length):ij K s p=K:=by
 funext s';unfold ij;by_cases e:s'=s
 ·rw[gA e,e,jW,gA h]
 ·rw[eI e]
theorem ActsV.put {t w x:H}{z n:Nat}{V:List UInt8->QS}{K:List UInt8->List aQ}{b:List UInt8}{p:aQ}{v':QS}{cs:List QS}{a:Option Addr}{c:Nat}(h:ActsV t w z n V K)(hnum:numOf (K b) p=(K b).length)
  (Q9:MapN x z (n+1) (fun s=>if s=b then N v' else if (K s).isEmpty=QR then Z else N (V s)))
  (E:∀ (i:Nat) (p:aQ),(K b)[i]?=N p->∃ a c,cs[i]?=N (Value.slice a p.1 c)/\SlIns t a p.1 p.2/\p.1<=1048576) (B:cs.length=(K b).length)
  (A:x.ownsRow t.heap.size 43 1 v' ((K b).length+1) (cs++[Y a p.1 c])) (ZA:p.1<=1048576) (L:SlIns t a p.1 p.2)
  (y:∀ s,s≠b->∀ g,(V s).ownBlock=N g->x.heap[g]?=w.heap[g]?) (D:∀ g,v'.ownBlock=N g->(V b).ownBlock=N g∨w.heap.size<=g):Acts t x z (n+1) (ij K b p):=by
 have o:ij K b p b=K b++[p]:=by unfold ij jW;rw[gA rfl,eI (by omega)]
 have m:∀ s,s≠b->ij K b p s=K s:=fun s f=>by unfold ij;rw[eI f]
 refine⟨fun s=>if s=b then v' else V s,Q9.congr fun s=>?_,h.ge,fun s=>?_,fun s f=>?_,fun s=>?_,fun s C g h1 h2=>?_⟩
 ·by_cases e:s=b
  ·rw[e,o,gA rfl,eI (by simp),gA rfl]
  ·rw[eI e,m s e,eI e]
 ·by_cases e:s=b
  ·rw[e,o,gA rfl]
   refine⟨cs++[Y a p.1 c],by simpa using A,fun i q l=>?_⟩;rcases KP i (K b).length with hi | hi
   ·rw[IH hi] at l
    obtain⟨ZB,M,h1,h2⟩:=E i q l;exact⟨ZB,M,by rw[IH (by omega)];exact h1,h2⟩
   ·rw[p8 hi] at l
    rw[p8 (by omega),B];obtain⟨j,QZ⟩:∃ j,i - (K b).length=j:=⟨_,rfl⟩
    rw[QZ] at l ⊢;cases j with
    | zero =>simp at l;subst l;exact⟨a,c,rfl,L,ZA⟩
    | succ j=>simp at l
  ·rw[eI e,m s e]
   obtain⟨G,h1,h2⟩:=h.row s;exact⟨G,pr h1 (y s e),h2⟩
 ·by_cases e:s=b
  ·rw[e,o] at f
   simp at f
  ·rw[eI e]
   rw[m s e] at f;exact h.nil s f
 ·by_cases e:s=b
  ·rw[e,o]
   have:=h.len b;simp;omega
  ·rw[m s e]
   have:=h.len s;omega
 ·have u:∀ s,s≠b->∀ g,(V s).ownBlock=N g->v'.ownBlock=N g->False:=fun s f g h1 h2=>by
   rcases D g h2 with F | F
   ·exact f (h.inj s b g h1 F)
   ·obtain⟨_,h4,_⟩:=h.row s
    have:=(je (h.row s).choose_spec.1 g h1).2.1;omega
  by_cases e:s=b<;>by_cases r:C=b
  ·rw[e,r]
  ·rw[gA e] at h1
   rw[eI r] at h2;exact(u C r g h2 h1).elim
  ·rw[eI e] at h1
   rw[gA r] at h2;exact(u s e g h1 h2).elim
  ·rw[eI e] at h1
   rw[eI r] at h2;exact h.inj s C g h1 h2
theorem Bw:(Tryz.prog.info? 43).map (fun i=>(i.zero,i.size,i.bytes))=N (N (.agg #[Y Z 0 0]),1,24):=by kernel_rfl
theorem zy (w:H):(zeroValue 263).run Tryz.prog w=.ok (Y Z 0 0) w:=by kernel_rfl
theorem Bz (z:H)(l n:Nat)(V:List UInt8->QS)(K:List UInt8->List aQ)(name:ByteArray)(p:aQ)(a:Option Addr)(c:Nat)(w:H)(hn:(n:Int)<=1000000)(ZB:name.size<=maxLen)(hp:p.1<=1048576)(hb:Below z.heap.size z w)(hI:SlIns z a p.1 p.2)(h:ActsV z w l n V K):Calls Tryz.prog 143 #[.map (N l),.string name,.agg #[Y a p.1 c]] w fun e w'=>e=QU (.int J (numOf (K name.toList) p:Nat))/\Acts z w' l (n+1) (ij K name.toList p)/\KA z.heap.size l w w':=by
 obtain⟨i0,hi,th,ur,ph⟩:=JV Bw;have QY:=ae ((q9 w).alloc ly (Q #[Y a p.1 c] 43));have L:=ae (h.below QY.out ly);have E:=ae (hb.trans (QY.out.mono hb.size));have QW:=ae (show(w.alloc (Q #[Y a p.1 c] 43)).cell? (T w.heap.size 0 Z)=N (Y a p.1 c) by simp[go_sem]);have QX:=ae (show w.heap.size<(w.alloc (Q #[Y a p.1 c] 43)).heap.size by simp);have K0:=ae (KA.of_below (B:=z.heap.size) (kb:=l) QY.out ly hb.size);obtain⟨Q2,t,S⟩:=L.out.row name.toList;obtain⟨a0,c0,X⟩:=tr t;rw[X] at t;obtain⟨b,A⟩:∃ b,K name.toList=b:=⟨_,rfl⟩
 have HV:=ae ((L.out.look name.toList).trans (X.trans (show Value.slice a0 (K name.toList).length c0=Y a0 b.length c0 by rw[A])));have QZ:=ae (X.trans (show Value.slice a0 (K name.toList).length c0=Y a0 b.length c0 by rw[A]));have Q9:=ae t;have HC:=ae S;have HL:=ae (show Q2.length=(K name.toList).length by have:=t.1;omega);have HI:=ae hI;have qr:((K name.toList).length:Int)<=1000000:=by have:=h.len name.toList;omega
 have HN:=ae (show n<maxLen by unfold maxLen;omega);clear h t S X hb hI;have hz:=zy;have D:=ae A;rw[A] at Q9 HC qr HL;clear A;go_enter Tryz.func143,Tryz.ntmps143
 go_wp2_with (first
  | (at_lookup;generalize w.alloc (Q #[Y a p.1 c] 43)=W at QY L E QW QX K0 Q9 ⊢;generalize w.heap.size=bx at QW QX ⊢;refine fi _ rfl _ _ 96 rfl 263 Tryz.underlying96 (hz _) l n _ rfl L.out.map name rfl ZB (Y a0 b.length c0) HV.out ?_)
  | go_in)
 go_loopw [13] (fun i wr=>∃ k:Nat,k<=b.length/\i=.int J k/\Hid (∀ j r,j<k->b[j]?=N r->dC r p=QQ)/\Hid (Below W.heap.size W wr)) (fun i _=>b.length - (intOf i).toNat);case atStart=>exact⟨0,AI _,rfl,fun j r M=>absurd M (JP _),eL _ _⟩
 case round =>
  obtain⟨k,hk,rfl,HK,f⟩:=hrel;by_cases bt:k<b.length
  ·obtain⟨g,c1,e⟩:=gv Q9.out (by omega)
   cases e
   obtain⟨q,hq⟩:∃ q,b[k]?=N q:=⟨_,gq bt⟩
   obtain⟨a1,c2,fd,ld,sm⟩:=HC.out k q hq;have hcell:wr.cell? (T g k Z)=N (Y a1 q.1 c2):=by
    have h1:=Q9.out.cells (g:=g) rfl k _ fd;have ha:((T g 0 Z):Addr).add k=(T g (0+k) Z):=by unfold Addr.add;split<;>simp_all
    rw[ha,DN] at h1;exact(f.out.cell (p:=(T g k Z)) (je Q9.out g rfl).2.1).trans h1
   have ro:(wr.alloc (Q #[Y a1 q.1 c2] 43)).cell? (T bx 0 Z)=N (Y a p.1 c):=((f.out.alloc f.out.size _).cell (p:=(T bx 0 Z)) QX.out).trans QW.out;have R:=ae (E.out.trans ((f.out.alloc f.out.size (Q #[Y a1 q.1 c2] 43)).mono E.out.size));have I1:=ae ld;have Q1:=ae hq;clear ld fd hq;have hlt2:(k:Int)<b.length:=by omega
   go_wp2_with (go_at_call 119;refine(sN a1 q.1 c2 q.2 a p.1 c p.2 _ sm hp (I1.out.below R.out ly) (HI.out.below R.out ly)).mono ?_;rintro e w2 ⟨rfl,m,rfl⟩)
   ·rename_i P
    go_ret;have u:numOf (K name.toList) p=k:=by rw[D.out];exact xA Q1.out P HK.out
    have G:=F6 (f.out.alloc f.out.size (Q #[Y a1 q.1 c2] 43)) m;refine⟨by rw[u];rfl,?_,K0.out.trans (KA.of_below G ly E.out.size)⟩;rw[zx (by rw[u,D.out];exact bt)];exact⟨V,(L.out.below G ly).mono (vF n)⟩
   ·rename_i P
    have G:=F6 (f.out.alloc f.out.size (Q #[Y a1 q.1 c2] 43)) m;refine⟨⟨k+1,by omega,by go_num,fun j r M hr=>?_,G⟩,by simp[intOf];omega⟩;by_cases e:j=k
    ·subst e
     rw[Q1.out] at hr;cases hr
     exact P
    ·exact HK.out j r (by omega) hr
  ·obtain rfl:k=b.length:=by omega
   have A1:=ae (L.out.below f.out ly);have ro:wr.cell? (T bx 0 Z)=N (Y a p.1 c):=(f.out.cell (p:=(T bx 0 Z)) QX.out).trans QW.out;have O1:=ae ((own_below Q9.out f.out ly).alloc (Q #[Y a p.1 c] 43));have y:=ae (A1.out.below ((q9 wr).alloc ly (Q #[Y a p.1 c] 43)) ly);have R:=ae (E.out.trans (f.out.mono E.out.size));have Q0:z.heap.size<=(wr.alloc (Q #[Y a p.1 c] 43)).heap.size:=by have:=R.out.size;simp;omega
   go_wp2_with (first
    | (at_lookup;refine fi _ rfl _ _ 96 rfl 263 Tryz.underlying96 (hz _) l n _ rfl A1.out.map name rfl ZB (Y a0 b.length c0) HV.out ?_)
    | (at_builtin;refine wpList_append_own_at _ rfl (.tmp 29) (.tmp 31) 263 rfl z.heap.size 43 i0 (.agg #[Y Z 0 0]) 1 24 Tryz.underlying263 hi th ur ph rfl (by decide) (Y a0 b.length c0) b.length Q2 (by simp[Act.eval]) O1.out (T wr.heap.size 0 Z) 1 1 [Y a p.1 c] (by simp[Act.eval]) rfl (cell_one_new _ _ _) (by simp[Value.oneCell']) (by unfold maxLen;omega) (by omega) Q0 ?_;intro v' w2 x ZA n8 mv;obtain⟨a3,c3,rfl⟩:=tr x;have O2:=ae x;have O:=ae ZA;have AT:=ae mv;clear x ZA mv n8;have N2:=ae (y.out.map.blk (O.out.block l y.out.map.lt (fun e=>by obtain⟨_,_,F,fz,h5⟩:=je O1.out l e.symm;obtain⟨es,cl,C⟩:=y.out.map.isMap;rw[h5] at C;cases C))))
    | (at_mapUpdate;refine pp _ rfl _ _ _ 96 rfl 263 Tryz.underlying96 l n _ rfl N2.out HN.out name (Y a3 (b.length+1) c3) rfl rfl ZB ?_;intro w3 la aq;have M3:=ae la;have G3:=ae aq;clear la aq)
    | (at_lookup;refine fi _ rfl _ _ 96 rfl 263 Tryz.underlying96 (hz _) l (n+1) _ rfl M3.out name rfl ZB (Y a3 (b.length+1) c3) (by rw[gA rfl];rfl) ?_)
    | go_in)
   go_ret;have u:numOf (K name.toList) p=(K name.toList).length:=by rw[D.out];exact xB HK.out
   have hkb:=y.out.map.lt;have hV:∀ g,(V name.toList).ownBlock=N g->(Value.slice a0 b.length c0).ownBlock=N g:=fun g o=>by rw[<-QZ.out];exact o
   have n9:∀ s g,(V s).ownBlock=N g->g<(wr.alloc (Q #[Y a p.1 c] 43)).heap.size/\g≠l:=fun s g o=>by obtain⟨F,h1,_⟩:=y.out.row s;obtain⟨_,h3,cs'',fz,h4⟩:=je h1 g o;exact⟨h3,fun e=>by obtain⟨es,cl,C⟩:=y.out.map.isMap;rw[<-e,h4] at C;cases C⟩
   refine⟨by rw[u,D.out];go_num,y.out.put (v':=Y a3 (b.length+1) c3) (cs:=Q2) (a:=a) (c:=c) u M3.out (by rw[D.out];exact HC.out) (by rw[D.out];exact HL.out) ?_ hp HI.out (fun s P g o=>?_) (fun g o=>?_),K0.out.trans ((KA.of_below f.out ly E.out.size).trans ((KA.of_below ((q9 wr).alloc ly _) ly R.out.size).trans ((KA.of_grown O.out Q0 (fun j M=>?_)).trans (KA.of_grown G3.out (j4 Q0 O.out.size) (fun j M=>?_)))))⟩
   ·rw[D.out]
    refine pr O2.out fun g o=>G3.out.block g (je O2.out g o).2.1 (fun e=>?_);obtain⟨_,_,F,fz,h5⟩:=je O2.out g o;obtain⟨es,cl,C⟩:=N2.out.isMap;cases e
    rw[h5] at C;cases C
   ·obtain⟨h1,h2⟩:=n9 s g o
    rw[G3.out.block g (lj h1 O.out.size) (fun e=>h2 (by cases e;rfl)),O.out.block g h1 (fun e=>P (y.out.inj _ _ g o (by rw[QZ.out];exact e.symm)))]
   ·rcases AT.out with h | h
    ·exact .inl (by rw[QZ.out,<-h];exact o)
    ·rw[h] at o
     cases o
     exact .inr ly
   ·obtain⟨h1,h2,F,fz,h3⟩:=je O1.out j M
    exact⟨h1,.inr ⟨F,fz,h3⟩⟩
   ·cases M
    exact⟨y.out.ge,.inl rfl⟩
theorem xD (b:H)(f n:Nat)(K:List UInt8->List aQ)(name:ByteArray)(p:aQ)(a:Option Addr)(c:Nat)(w:H)(hn:(n:Int)<=1000000)(g:name.size<=maxLen)(j:p.1<=1048576)(hb:Below b.heap.size b w)(m:SlIns b a p.1 p.2)(h:Acts b w f n K):Calls Tryz.prog 143 #[.map (N f),.string name,.agg #[Y a p.1 c]] w fun e i=>e=QU (.int J (numOf (K name.toList) p:Nat))/\Acts b i f (n+1) (ij K name.toList p)/\KA b.heap.size f w i:=by obtain⟨V,l⟩:=h;exact Bz b f n V K name p a c w hn g j hb m l
def fj (K:List UInt8->List aQ)(d:aj):Told:=if d.kind=1 then ⟨1,d.text,0⟩ else if d.kind=3 then ⟨3,⟨#[]⟩,(numOf (K d.name.toList) (d.actN,d.act):Nat)⟩ else ⟨2,⟨#[]⟩,0⟩
def fk (K:List UInt8->List aQ)(d:aj):List UInt8->List aQ:=if d.kind=3 then ij K d.name.toList (d.actN,d.act) else K
def iG (l:Link):Told:=⟨if l.has=QR then 0 else 2,⟨#[]⟩,0⟩
theorem BH (l:Link):TOk (iG l):=by
 unfold iG;cases l.has
 ·exact⟨show(Lit.int J 2).wf=QR by decide,AI _,show(Lit.int J 0).wf=QR by decide⟩
 ·exact⟨show(Lit.int J 0).wf=QR by decide,AI _,show(Lit.int J 0).wf=QR by decide⟩
theorem BJ {f w:H}{b n:Nat}{K:List UInt8->List aQ}{d:aj}(h:Acts f w b n K)(hn:(n:Int)<=1000000)(c:d.text.size<=maxLen):TOk (fj K d):=by
 obtain⟨V,g⟩:=h;unfold fj;split
 ·exact⟨show(Lit.int J 1).wf=QR by decide,c,show(Lit.int J 0).wf=QR by decide⟩
 ·split
  ·refine⟨show(Lit.int J 3).wf=QR by decide,AI _,?_⟩
   have h1:=tq (K d.name.toList) (d.actN,d.act);have h2:=g.len d.name.toList;show(Lit.int J ((numOf (K d.name.toList) (d.actN,d.act):Nat):Int)).wf=QR;exact WalkArith.wf_i64 (by constructor<;>omega)
  ·exact⟨show(Lit.int J 2).wf=QR by decide,AI _,show(Lit.int J 0).wf=QR by decide⟩
theorem ActsV.blk {j w w':H}{f n:Nat}{V:List UInt8->QS}{K:List UInt8->List aQ}(h:ActsV j w f n V K)(hb:∀ i,i<w.heap.size->((∃ l c,w.heap[i]?=N (.map l c))∨∃ b fz,w.heap[i]?=N (Q b 43 fz))->w'.heap[i]?=w.heap[i]?):ActsV j w' f n V K :=
 ⟨h.map.blk (hb _ h.map.lt (.inl h.map.isMap)),h.ge,fun s=>by
  obtain⟨b,h1,h2⟩:=h.row s
  exact⟨b,pr h1 (fun k g=>by
   obtain⟨_,o,m⟩:=je h1 k g
   exact hb k o (.inr m)),h2⟩,h.nil,h.len,h.inj⟩
theorem Acts.but {j w l:H}{f n b:Nat}{K:List UInt8->List aQ}(h:Acts j w f n K){q:Array QS}{t:TypeId}{fz:Nat × Nat}(g:w.heap[b]?=N (Q q t fz))(m:t≠43)(p:∀ i,i≠b->l.heap[i]?=w.heap[i]?):Acts j l f n K :=
 h.elim fun V o=>⟨V,o.blk fun i _ hi=>p i (fun e=>by
  subst e;rcases hi with ⟨es,c,h1⟩ | ⟨cs',fz',h1⟩
  ·rw[g] at h1;cases h1
  ·rw[g] at h1;simp at h1;exact m h1.2.1)⟩
theorem KA.then_below {B kb:Nat}{w c b:H}(h:KA B kb w c)(j:B<=w.heap.size)(k:Below w.heap.size c b):KA B kb w b :=
 ⟨h.below.trans (k.mono j),fun i hi f g=>(k.block i hi).trans (h.blk i hi f g)⟩
theorem xE (l:Link)(w:H):Calls Tryz.prog 98 #[.agg #[.string l.name,.bool l.ask,.bool l.has,.int J l.at_]] w fun e c=>e=QU (tv (iG l))/\Below w.heap.size w c:=by
 unfold iG tv;cases hh:l.has with
 | true =>have b:=ae (((q9 w).alloc ly (Q #[.string l.name,.bool l.ask,.bool QR,.int J l.at_] 129)).alloc (by simp) (Q #[.int J 0,.string ⟨#[]⟩,.int J 0] 169));go_enter Tryz.func98,Tryz.ntmps98;go_wp2;refine bp (v:=.agg #[.int J 0,.string ⟨#[]⟩,.int J 0]) (by simp[results,Tryz.results98,go_sem]) rfl ⟨rfl,b.out⟩
 | false =>have b:=ae (((q9 w).alloc ly (Q #[.string l.name,.bool l.ask,.bool QQ,.int J l.at_] 129)).alloc (by simp) (Q #[.int J 2,.string ⟨#[]⟩,.int J 0] 169));go_enter Tryz.func98,Tryz.ntmps98;go_wp2;refine bp (v:=.agg #[.int J 2,.string ⟨#[]⟩,.int J 0]) (by simp[results,Tryz.results98,go_sem]) rfl ⟨rfl,b.out⟩
theorem xF (j:H)(l n:Nat)(K:List UInt8->List aQ)(d:aj)(a0:Option Addr)(c0:Nat)(a1:Option Addr)(c1:Nat)(w:H)(hn:(n:Int)<=1000000)(x:d.name.size<=maxLen)(Q9:d.actN<=1048576)(hb:Below j.heap.size j w)(B:SlIns j a0 d.actN d.act)(h:Acts j w l n K):Calls Tryz.prog 97 #[.map (N l),.agg #[.string d.name,.int J d.kind,.int J d.code,.string d.text,Y a0 d.actN c0,Y a1 d.linksN c1]] w fun e u=>e=QU (tv (fj K d))/\Acts j u l (n+1) (fk K d)/\KA j.heap.size l w u:=by
 have r:=ae (((q9 w).alloc ly (Q #[.string d.name,.int J d.kind,.int J d.code,.string d.text,Y a0 d.actN c0,Y a1 d.linksN c1] 46)));have ZB:=ae h;have ZA:=ae B;have A:=ae hb;have m:=ae hb.size;clear h B hb;by_cases g:d.kind=1
 ·have p:=ae (show fj K d=⟨1,d.text,0⟩ by unfold fj;rw[gA g])
  have o:=ae (show fk K d=K by unfold fk;rw[eI (by omega)]);rw[p.out,o.out];rw[g] at r ⊢;have c:=ae (r.out.alloc (by simp) (Q #[.int J 1,.string d.text,.int J 0] 169));clear g;go_enter Tryz.func97,Tryz.ntmps97;go_wp2;refine bp (v:=.agg #[.int J 1,.string d.text,.int J 0]) (by simp[results,Tryz.results97,go_sem]) rfl ⟨rfl,(ZB.out.below c.out ly).mono (vF n),KA.of_below c.out ly m.out⟩
 ·by_cases f:d.kind=3
  ·have p:=ae (show fj K d=⟨3,⟨#[]⟩,(numOf (K d.name.toList) (d.actN,d.act):Nat)⟩ by unfold fj;rw[eI g,gA f])
   have o:=ae (show fk K d=ij K d.name.toList (d.actN,d.act) by unfold fk;rw[gA f]);rw[p.out,o.out];rw[f] at r ⊢;have c:=ae (r.out.alloc (by simp) (Q #[.int J 0,.string ⟨#[]⟩,.int J 0] 169));clear g f
   have C:=ae (show((w.alloc (Q #[.string d.name,.int J 3,.int J d.code,.string d.text,Y a0 d.actN c0,Y a1 d.linksN c1] 46)).alloc (Q #[.int J 0,.string ⟨#[]⟩,.int J 0] 169)).heap[w.heap.size+1]?=N (Q #[.int J 0,.string ⟨#[]⟩,.int J 0] 169 (0,0)) by
    have:=(J5 (w.alloc (Q #[.string d.name,.int J 3,.int J d.code,.string d.text,Y a0 d.actN c0,Y a1 d.linksN c1] 46)) (Q #[.int J 0,.string ⟨#[]⟩,.int J 0] 169)).1
    simpa using this)
   have z:w.heap.size+1≠l:=fun e=>by have:=ZB.out.lt;omega
   have E:=ae (fun(V:H) (G:KA j.heap.size l ((w.alloc (Q #[.string d.name,.int J 3,.int J d.code,.string d.text,Y a0 d.actN c0,Y a1 d.linksN c1] 46)).alloc (Q #[.int J 0,.string ⟨#[]⟩,.int J 0] 169)) V)=>by
    have b:=(G.blk (w.heap.size+1) (by simp) z (fun cs fz e=>by rw[C.out] at e;simp at e)).trans C.out
    exact(show V.heap[w.heap.size+1]?=N (Q #[.int J 0,.string ⟨#[]⟩,.int J 0] 169 (0,0))/\V.cell? (T (w.heap.size+1) 0 Z)=N (.int J 0)/\V.cell? (T (w.heap.size+1) 1 Z)=N (.string ⟨#[]⟩)/\V.cell? (T (w.heap.size+1) 2 Z)=N (.int J 0)/\V.frozen? (T (w.heap.size+1) 0 Z)=QQ/\V.frozen? (T (w.heap.size+1) 1 Z)=QQ/\V.frozen? (T (w.heap.size+1) 2 Z)=QQ from
     ⟨b,by simp[World.cell?,b],by simp[World.cell?,b],by simp[World.cell?,b],by simp[World.frozen?,b],by simp[World.frozen?,b],by simp[World.frozen?,b]⟩))
   go_enter Tryz.func97,Tryz.ntmps97;go_wp2_with (go_at_call 143;refine(xD j l n K d.name (d.actN,d.act) a0 c0 _ hn x Q9 (A.out.trans (c.out.mono A.out.size)) ZA.out (ZB.out.below c.out ly)).mono ?_;rintro e w2 ⟨rfl,s,q⟩;obtain⟨b,r0,r1,F,f0,f1,f2⟩:=E.out _ q;have L:=ae b;have y:=ae s;have t:=ae q;clear s q b);generalize numOf (K d.name.toList) (d.actN,d.act)=D;refine bp (v:=.agg #[.int J 3,.string ⟨#[]⟩,.int J D]) (by simp[results,Tryz.results97,go_sem,r0,r1,F]) rfl ⟨rfl,y.out.but L.out (by decide) (fun i hi=>?_),((KA.of_below c.out ly m.out).trans t.out).then_below m.out ⟨rfl,rfl,rfl,by simp,fun i hi=>?_⟩⟩
   ·rw[qh _ _ _ _ hi,qh _ _ _ _ hi,qh _ _ _ _ hi]
   ·have hi:i≠w.heap.size+1:=by omega
    rw[qh _ _ _ _ hi,qh _ _ _ _ hi,qh _ _ _ _ hi]
  ·have p:=ae (show fj K d=⟨2,⟨#[]⟩,0⟩ by unfold fj;rw[eI g,eI f])
   have o:=ae (show fk K d=K by unfold fk;rw[eI f]);rw[p.out,o.out];have q1:(d.kind == 1)=QQ:=by simpa using g
   have q3:(d.kind == 3)=QQ:=by simpa using f
   have c:=ae (r.out.alloc (by simp) (Q #[.int J 2,.string ⟨#[]⟩,.int J 0] 169));clear g f;go_enter Tryz.func97,Tryz.ntmps97;go_wp2;refine bp (v:=.agg #[.int J 2,.string ⟨#[]⟩,.int J 0]) (by simp[results,Tryz.results97,go_sem]) rfl ⟨rfl,(ZB.out.below c.out ly).mono (vF n),KA.of_below c.out ly m.out⟩
end Go.Proofs.YtamacmnikdejeaaGreatDoor.Vp
