import Derived.Test.YtpmnbjkjpnclaaaGreatDoorRB
import Derived.Test.YtpmnbjkjpnclaaaGreatDoorRH
set_option linter.unusedSimpArgs false
open Go renaming Addr.mk->Q,Value.slice->Z,Value.string->U,Value.int->N,Obj.cells->J,IntKind.i64->I,World->M,Value->ZC,TypeId->ZI
open Option renaming none->Y,some->T
open Bool renaming false->ZA
namespace Go.Proofs.YtpmnbjkjpnclaaaGreatDoor.Vp
open RowKit Ca
variable {w f q:M}{b c g j n size:Nat}{R:List DR}{r:DR}{ty e:ZI}{m:ZC}{o l:Array ZC}{i:List ZC}{x:Ins}
theorem sF{cap:Nat}(h:w.ownsRow b e size (Z (T (Q g 0 Y)) n cap) n i)(u:ZC):(w.setCell (Q g j Y) u).ownsRow b e size (Z (T (Q g 0 Y)) n cap) n (i.set j u):=by
 refine⟨by rw[LB];exact h.1,?_⟩;rcases h.2 with ⟨c,h0⟩|⟨g',cap',f,c,hb,l,h1,h2,h3,h4⟩
 {simp at c};{simp only[OJ,OU,TX] at c;obtain⟨⟨rfl,-⟩,-,rfl⟩:=c;refine .inr ⟨g,cap,f.setIfInBounds j u,rfl,hb,?_,h1,h2,by simpa using h3,?_⟩;{simp[World.setCell,CP,l]};{rw[QY,VZ,h4]}}
theorem eU{g:ZI}{v:ZC}(h:w.ownsRow c e size v n i)(hb:OfTy w b g)(f:g≠e)(j:Nat)(u:ZC):(w.setCell (Q b j Y) u).ownsRow c e size v n i :=
 bE h λk _ l=>qh _ _ _ _ λq=>hb.ne (WS f) ((show k=b from q) ▸ l)
theorem Ew (d:Deed)(x:Ins):bJ (d.doA x).H (d.doA x).f=bJ d.H d.f++gV x:=by
 show((List.range (d.f+1)).map _).flatMap gV=_;rw[PD,DN,BO];congr 1;{unfold bJ;congr 1;refine WM λi hi=>?_;have:=PL.1 hi;show(if i=d.f then x else d.H i)=d.H i;rw[gM (by omega)]};{simp[Deed.doA]}
theorem Ex (d:Deed)(x:Link):bq (d.lkA x).D (d.lkA x).b=bq d.D d.b++cQ x:=by
 show((List.range (d.b+1)).map _).flatMap cQ=_;rw[PD,DN,BO];congr 1;{unfold bq;congr 1;refine WM λi hi=>?_;have:=PL.1 hi;show(if i=d.b then x else d.D i)=d.D i;rw[gM (by omega)]};{simp[Deed.lkA]}
theorem ya (R:List DR)(r b:DR)(j:Nat)(u:ZC)(hj:j<6)(e:ddV b=(ddV r).set j u):(R++[b]).flatMap ddV=((R++[r]).flatMap ddV).set (R.length*6+j) u:=by have c:(R.flatMap ddV).length=R.length*6:=eX ddV 6 (λ_=>rfl) R;rw[BO,BO,SN _ _ (by omega),c,Nat.add_sub_cancel_left];simp[e]
theorem sG{c:DR}(h:(R++[r]).Pairwise λa b=>Apt a.2.1 b.2.1/\Apt a.2.2 b.2.2)(k:∀a∈R,Apt a.2.1 r.2.1/\Apt a.2.2 r.2.2->Apt a.2.1 c.2.1/\Apt a.2.2 c.2.2):(R++[c]).Pairwise λa b=>Apt a.2.1 b.2.1/\Apt a.2.2 b.2.2:=by rw[PM] at h ⊢;refine⟨h.1,U8 _ _,λa f b hb=>?_⟩;rw[nD.1 hb];exact k a f (h.2.2 a f r (by simp))
theorem yc{a v f:ZC}(h:w.ownsRow c e size a n i)(j:Apt a v)(g:f.ownBlock=v.ownBlock∨f.ownBlock=T w.heap.size):Apt a f:=by
 rcases j with b|b;{exact .inl b};{rcases g with h1|h1;{exact .inr (by rw[h1];exact b)};{refine .inr λe=>?_;have:=(h.lt w.heap.size (e.trans h1)).2;omega}}
theorem DRow.moreA{j:M}{f:ZC}(h:DRow w b (Z (T (Q g 0 Y)) (R.length+1) c) (R++[r]))(y:j.ownsRow b 151 3 f (r.1.f+1) (bJ r.1.H r.1.f++gV x))(F:w.grownBy j r.2.1.ownBlock)(B:f.ownBlock=r.2.1.ownBlock∨f.ownBlock=T w.heap.size):DRow (j.setCell (Q g (R.length*6+4) Y) f) b (Z (T (Q g 0 Y)) (R.length+1) c) (R++[(r.1.doA x,f,r.2.2)]):=by
 have G:(R++[r]).length=R.length+1:=by simp
 have A:=h.i;rw[G] at A;have tg:OfTy w g 46:=bu A g rfl;have D:=h.sub r (by simp);have keep:∀k,k<w.heap.size->¬ r.2.1.ownBlock=T k->j.heap[k]?=w.heap[k]?:=λk l hn=>F.block k l (λe=>hn e.symm);have o:∀k e,OfTy w k e->e≠151->j.heap[k]?=w.heap[k]?:=λk e i E=>keep k (by obtain⟨c',z,l⟩:=i;exact(eT.1 l).1) λq=>i.ne (WS E) (bu D.H k q);have p:OfTy j g 46:=tg.eq (o g _ tg (by decide));have C:j.ownsRow b 46 6 (Z (T (Q g 0 Y)) (R.length+1) c) (R.length+1) ((R++[r]).flatMap ddV):=bE A λk _ i=>o k _ i (by decide);refine⟨?_,λa m=>?_,sG h.up λa m s=>⟨yc (h.sub a (by simp[m])).H s.1 B,s.2⟩⟩;{rw[show(R++[(r.1.doA x,f,r.2.2)]).length=R.length+1 by simp,ya R r (r.1.doA x,f,r.2.2) 4 f (by omega) rfl];exact sF C f};{rcases p8.1 m with m|m;{have u:=h.sub a (by simp[m]);have s:=(PM.1 h.up).2.2 a m r (by simp);refine⟨eU (bE u.H λk l i=>keep k (u.H.lt k l).2 λq=>?_) p (by decide) _ _,eU (bE u.V λk _ i=>o k _ i (by decide)) p (by decide) _ _⟩;rcases s.1 with t|t;{rw[t] at l;cases l};{exact t (l.trans q.symm)}};{rw[nD.1 m];refine⟨eU (v:=f) (n:=r.1.f+1) ?_ p (by decide) _ _,eU (v:=r.2.2) (n:=r.1.b) (bE D.V λk _ i=>o k _ i (by decide)) p (by decide) _ _⟩;show j.ownsRow b 151 3 f (r.1.f+1) (bJ (r.1.doA x).H (r.1.doA x).f);rw[Ew];exact y}}
theorem DRow.moreL{j:M}{x:Link}{f:ZC}(h:DRow w b (Z (T (Q g 0 Y)) (R.length+1) c) (R++[r]))(y:j.ownsRow b 91 4 f (r.1.b+1) (bq r.1.D r.1.b++cQ x))(F:w.grownBy j r.2.2.ownBlock)(B:f.ownBlock=r.2.2.ownBlock∨f.ownBlock=T w.heap.size):DRow (j.setCell (Q g (R.length*6+5) Y) f) b (Z (T (Q g 0 Y)) (R.length+1) c) (R++[(r.1.lkA x,r.2.1,f)]):=by
 have G:(R++[r]).length=R.length+1:=by simp
 have A:=h.i;rw[G] at A;have tg:OfTy w g 46:=bu A g rfl;have D:=h.sub r (by simp);have keep:∀k,k<w.heap.size->¬ r.2.2.ownBlock=T k->j.heap[k]?=w.heap[k]?:=λk l hn=>F.block k l (λe=>hn e.symm);have o:∀k e,OfTy w k e->e≠91->j.heap[k]?=w.heap[k]?:=λk e i E=>keep k (by obtain⟨c',z,l⟩:=i;exact(eT.1 l).1) λq=>i.ne (WS E) (bu D.V k q);have p:OfTy j g 46:=tg.eq (o g _ tg (by decide));have C:j.ownsRow b 46 6 (Z (T (Q g 0 Y)) (R.length+1) c) (R.length+1) ((R++[r]).flatMap ddV):=bE A λk _ i=>o k _ i (by decide);refine⟨?_,λa m=>?_,sG h.up λa m s=>⟨s.1,yc (h.sub a (by simp[m])).V s.2 B⟩⟩;{rw[show(R++[(r.1.lkA x,r.2.1,f)]).length=R.length+1 by simp,ya R r (r.1.lkA x,r.2.1,f) 5 f (by omega) rfl];exact sF C f};{rcases p8.1 m with m|m;{have u:=h.sub a (by simp[m]);have s:=(PM.1 h.up).2.2 a m r (by simp);refine⟨eU (bE u.H λk _ i=>o k _ i (by decide)) p (by decide) _ _,eU (bE u.V λk l i=>keep k (u.V.lt k l).2 λq=>?_) p (by decide) _ _⟩;rcases s.2 with t|t;{rw[t] at l;cases l};{exact t (l.trans q.symm)}};{rw[nD.1 m];refine⟨eU (v:=r.2.1) (n:=r.1.f) (bE D.H λk _ i=>o k _ i (by decide)) p (by decide) _ _,eU (v:=f) (n:=r.1.b+1) ?_ p (by decide) _ _⟩;show j.ownsRow b 91 4 f (r.1.b+1) (bq (r.1.lkA x).D (r.1.lkA x).b);rw[Ex];exact y}}
def Of3 (w:M)(k:Nat):Prop:=OfTy w k 151∨OfTy w k 91∨OfTy w k 46
theorem Of3.of_eq{b:M}{k:Nat}(h:Of3 b k)(hb:b.heap[k]?=w.heap[k]?):Of3 w k:=h.imp (λh=>h.of_eq hb) (λh=>h.imp (λh=>h.of_eq hb) (λh=>h.of_eq hb))
structure KR (b base:Nat)(w w':M):Prop where
 os:w'.os=w.os
 tape:w'.tape=w.tape
 output:w'.output=w.output
 size:w.heap.size<=w'.heap.size
 keep:∀k,k<w.heap.size->k≠b->(k<base∨¬ Of3 w k)->w'.heap[k]?=w.heap[k]?
theorem KR.refl (b c:Nat)(w:M):KR b c w w:=⟨rfl,rfl,rfl,n6 _,λ_ _ _ _=>rfl⟩
theorem KR.trans{u v:M}(h:KR b c u v)(k:KR b c v w):KR b c u w :=
 ⟨k.os.trans h.os,k.tape.trans h.tape,k.output.trans h.output,p7 h.size k.size,λi hi hb f=>by
  have e:=h.keep i hi hb f
  exact(k.keep i (lj hi h.size) hb (f.imp id λhn g=>hn (g.of_eq e))).trans e⟩
theorem KR.u{B:Nat}(h:Below B w f)(hB:w.heap.size<=B):KR b c w f:=⟨h.os,h.tape,h.output,h.size,λk hk _ _=>h.block k (by omega)⟩
theorem KR.of_grown{g:M}{row:Option Nat}(h:w.grownBy g row)(j:∀k,row=T k->c<=k/\Of3 w k):KR b c w g :=
 ⟨h.os,h.tape,h.output,h.size,λk i _ f=>h.block k i (λe=>by
  obtain⟨h1,h2⟩:=j k e.symm;rcases f with f|f
  ·omega
  ·exact f h2)⟩
theorem KR.ab (w:M)(j:Nat)(v:ZC):KR b c w (w.setCell (Q b j Y) v) :=
 ⟨rfl,rfl,rfl,by simp[World.setCell],λk _ hb _=>qh _ _ _ _ hb⟩
theorem KR.cell{base:Nat}(w:M)(hg:base<=g)(f:Of3 w g)(j:Nat)(v:ZC):KR b base w (w.setCell (Q g j Y) v) :=
 ⟨rfl,rfl,rfl,by simp[World.setCell],λk _ _ c=>qh _ _ _ _ (λe=>by
  have e:k=g:=e;subst e;rcases c with c|c
  ·omega
  ·exact c f)⟩
theorem KR.aa (h:KR b c w f)(hb:n<=b)(hn:n<=c)(hz:n<=w.heap.size):Below n w f:=⟨h.os,h.tape,h.output,h.size,λk hk=>h.keep k (by omega) (by omega) (.inl (by omega))⟩
def RdB (w:M)(b:Nat)(v:ZC):Prop:=w.heap[b]?=T (J #[v] 268 (0,0))
theorem RdB.lt{v:ZC}(h:RdB w b v):b<w.heap.size:=(eT.1 h).1
theorem RdB.c0{v:ZC}(h:RdB w b v):w.cell? (Q b 0 Y)=T v:=by rw[HU h];rfl
theorem RdB.fz{v:ZC}(h:RdB w b v):w.frozen? (Q b 0 Y)=ZA:=PC h 0
theorem RdB.set{v:ZC}(h:RdB w b v)(c:ZC):RdB (w.setCell (Q b 0 Y) c) b c:=by unfold RdB at *;simp[World.setCell,CP,h]
structure RSt (w:M)(b base:Nat)(v:ZC)(R:List DR):Prop where
 ab:RdB w b v
 row:DRow w base v R
 lt:b<base
 le:base<=w.heap.size
theorem RSt.aa{v:ZC}(h:RSt w b c v R)(hb:Below w.heap.size w f):RSt f b c v R :=
 ⟨(hb.block b h.ab.lt).trans h.ab,h.row.aa hb ly,h.lt,p7 h.le hb.size⟩
theorem dP (w:M)(a b c d e f:ZC)(t:ZI):∀j u,[a,b,c,d,e,f][j]?=T u->(w.alloc (J #[a,b,c,d,e,f] t)).cell? (((Q w.heap.size 0 Y):Addr).add j)=T u:=by intro j u g;rw[addr_add,FM];exact jk w _ t w.heap.size j u rfl (by simpa using g)
theorem RSt.ao{n:M}{v g:ZC}{name text:ByteArray}{kind code:Int}(h:RSt w b c v R)(p:Below w.heap.size w n)
  (o:f.ownsRow c 46 6 g (R.length+1) (R.flatMap ddV++[U name,N I kind,N I code,U text,Z Y 0 0,Z Y 0 0])) (i:(n.alloc (J l ty)).grownBy f v.ownBlock) :
  RSt (f.setCell (Q b 0 Y) g) b c g (R++[(aV name kind code text,Z Y 0 0,Z Y 0 0)])/\KR b c w (f.setCell (Q b 0 Y) g)/\RdB f b v:=by
 have m:=p.alloc p.size (J l ty);have h1:=h.aa m;have s:DSub (n.alloc (J l ty)) w.heap.size (aV name kind code text,Z Y 0 0,Z Y 0 0):=⟨A9 _ _ _ _,A9 _ _ _ _⟩
 have t:DRow f c g (R++[(aV name kind code text,Z Y 0 0,Z Y 0 0)]):=DRow.more h.row h1.row h.le s o i;have r:T b≠v.ownBlock:=λe=>by have:=(h.row.i.lt b e.symm).1;have:=h.lt;omega
 have j:RdB f b v:=(i.block b h1.ab.lt r).trans h1.ab;have hz:w.heap.size<=f.heap.size:=p7 m.size i.size;refine⟨⟨j.set g,t.set (e:=0) (.inl h.lt) g,h.lt,by have:=h.le;simp;omega⟩,?_,j⟩;refine((KR.u m ly).trans (KR.of_grown i λk q=>?_)).trans (KR.ab f 0 g);exact⟨(h.row.i.lt k q).1,.inr (.inr (bu h1.row.i k q))⟩
theorem RSt.moreA (h:RSt w b j (Z (T (Q g 0 Y)) (R.length+1) c) (R++[r]))(D:Below w.heap.size w q)
  (y:f.ownsRow j 151 3 m (r.1.f+1) (bJ r.1.H r.1.f++gV x)) (l:(q.alloc (J o ty)).grownBy f r.2.1.ownBlock) (F:m.ownBlock=r.2.1.ownBlock∨m.ownBlock=T (q.alloc (J o ty)).heap.size) :
  RSt (f.setCell (Q g (R.length*6+4) Y) m) b j (Z (T (Q g 0 Y)) (R.length+1) c) (R++[(r.1.doA x,m,r.2.2)])/\KR b j w (f.setCell (Q g (R.length*6+4) Y) m)/\f.cell? (Q g (R.length*6+4) Y)=T r.2.1/\f.frozen? (Q g (R.length*6+4) Y)=ZA/\g<f.heap.size:=by
 have t:=D.alloc D.size (J o ty);have h1:=h.aa t;have H:(R++[r]).length=R.length+1:=by simp
 have s:=h1.row.i;rw[H] at s;have tg:=bu s g rfl;have p:=h1.row.sub r (by simp);have n:=(s.lt g rfl)
 have ZP:=DRow.moreA (x:=x) h1.row y l F;have ZQ:T b≠r.2.1.ownBlock:=λe=>by have:=(p.H.lt b e.symm).1;have:=h.lt;omega
 have C:T g≠r.2.1.ownBlock:=λe=>tg.ne (by decide) (bu p.H g e.symm);have A:RdB f b (Z (T (Q g 0 Y)) (R.length+1) c):=(l.block b h1.ab.lt ZQ).trans h1.ab;have z:f.heap[g]?=(q.alloc (J o ty)).heap[g]?:=l.block g n.2 C;have hz:w.heap.size<=f.heap.size:=p7 t.size l.size;have B:b≠g:=by have:=h.lt;omega
 have cell:=cR (by rw[H];exact s) (i:=R.length) (r:=r) (by simp) 4 (by omega) (u:=r.2.1) rfl;have E:OfTy f g 46:=tg.eq z;refine⟨⟨?_,ZP,h.lt,by have:=h.le;simp;omega⟩,?_,(cq (a:=(Q g _ Y)) z).trans cell.1,(JN (a:=(Q g _ Y)) z).trans cell.2,lj n.2 l.size⟩;{exact(qh _ _ _ _ B).trans A};{refine((KR.u t ly).trans (KR.of_grown l λk G=>?_)).trans (KR.cell f n.1 (.inr (.inr E)) _ _);exact⟨(p.H.lt k G).1,.inl (bu p.H k G)⟩}
theorem RSt.moreL{x:Link}(h:RSt w b j (Z (T (Q g 0 Y)) (R.length+1) c) (R++[r]))(D:Below w.heap.size w q)
  (y:f.ownsRow j 91 4 m (r.1.b+1) (bq r.1.D r.1.b++cQ x)) (l:(q.alloc (J o ty)).grownBy f r.2.2.ownBlock) (F:m.ownBlock=r.2.2.ownBlock∨m.ownBlock=T (q.alloc (J o ty)).heap.size) :
  RSt (f.setCell (Q g (R.length*6+5) Y) m) b j (Z (T (Q g 0 Y)) (R.length+1) c) (R++[(r.1.lkA x,r.2.1,m)])/\KR b j w (f.setCell (Q g (R.length*6+5) Y) m)/\f.cell? (Q g (R.length*6+5) Y)=T r.2.2/\f.frozen? (Q g (R.length*6+5) Y)=ZA/\g<f.heap.size:=by
 have t:=D.alloc D.size (J o ty);have h1:=h.aa t;have H:(R++[r]).length=R.length+1:=by simp
 have s:=h1.row.i;rw[H] at s;have tg:=bu s g rfl;have p:=h1.row.sub r (by simp);have n:=(s.lt g rfl)
 have ZP:=DRow.moreL (x:=x) h1.row y l F;have ZQ:T b≠r.2.2.ownBlock:=λe=>by have:=(p.V.lt b e.symm).1;have:=h.lt;omega
 have C:T g≠r.2.2.ownBlock:=λe=>tg.ne (by decide) (bu p.V g e.symm);have A:RdB f b (Z (T (Q g 0 Y)) (R.length+1) c):=(l.block b h1.ab.lt ZQ).trans h1.ab;have z:f.heap[g]?=(q.alloc (J o ty)).heap[g]?:=l.block g n.2 C;have hz:w.heap.size<=f.heap.size:=p7 t.size l.size;have B:b≠g:=by have:=h.lt;omega
 have cell:=cR (by rw[H];exact s) (i:=R.length) (r:=r) (by simp) 5 (by omega) (u:=r.2.2) rfl;have E:OfTy f g 46:=tg.eq z;refine⟨⟨?_,ZP,h.lt,by have:=h.le;simp;omega⟩,?_,(cq (a:=(Q g _ Y)) z).trans cell.1,(JN (a:=(Q g _ Y)) z).trans cell.2,lj n.2 l.size⟩;{exact(qh _ _ _ _ B).trans A};{refine((KR.u t ly).trans (KR.of_grown l λk G=>?_)).trans (KR.cell f n.1 (.inr (.inr E)) _ _);exact⟨(p.V.lt k G).1,.inr (.inl (bu p.V k G))⟩}
def AcB (w:M)(b:Nat)(v:ZC):Prop:=w.heap[b]?=T (J #[v] 37 (0,0))
theorem AcB.lt{v:ZC}(h:AcB w b v):b<w.heap.size:=(eT.1 h).1
theorem AcB.c0{v:ZC}(h:AcB w b v):w.cell? (Q b 0 Y)=T v:=by rw[HU h];rfl
theorem AcB.fz{v:ZC}(h:AcB w b v):w.frozen? (Q b 0 Y)=ZA:=PC h 0
theorem AcB.set{v:ZC}(h:AcB w b v)(c:ZC):AcB (w.setCell (Q b 0 Y) c) b c:=by unfold AcB at *;simp[World.setCell,CP,h]
structure ASt (w:M)(b base:Nat)(v:ZC)(R:List DR):Prop where
 ab:AcB w b v
 row:DRow w base v R
 lt:b<base
 le:base<=w.heap.size
theorem ASt.aa{v:ZC}(h:ASt w b c v R)(hb:Below w.heap.size w f):ASt f b c v R :=
 ⟨(hb.block b h.ab.lt).trans h.ab,h.row.aa hb ly,h.lt,p7 h.le hb.size⟩
theorem ASt.ao{n:M}{v g:ZC}{name text:ByteArray}{kind code:Int}(h:ASt w b c v R)(p:Below w.heap.size w n)
  (o:f.ownsRow c 46 6 g (R.length+1) (R.flatMap ddV++[U name,N I kind,N I code,U text,Z Y 0 0,Z Y 0 0])) (i:(n.alloc (J l ty)).grownBy f v.ownBlock) :
  ASt (f.setCell (Q b 0 Y) g) b c g (R++[(aV name kind code text,Z Y 0 0,Z Y 0 0)])/\KR b c w (f.setCell (Q b 0 Y) g)/\AcB f b v:=by
 have m:=p.alloc p.size (J l ty);have h1:=h.aa m;have s:DSub (n.alloc (J l ty)) w.heap.size (aV name kind code text,Z Y 0 0,Z Y 0 0):=⟨A9 _ _ _ _,A9 _ _ _ _⟩
 have t:DRow f c g (R++[(aV name kind code text,Z Y 0 0,Z Y 0 0)]):=DRow.more h.row h1.row h.le s o i;have r:T b≠v.ownBlock:=λe=>by have:=(h.row.i.lt b e.symm).1;have:=h.lt;omega
 have j:AcB f b v:=(i.block b h1.ab.lt r).trans h1.ab;have hz:w.heap.size<=f.heap.size:=p7 m.size i.size;refine⟨⟨j.set g,t.set (e:=0) (.inl h.lt) g,h.lt,by have:=h.le;simp;omega⟩,?_,j⟩;refine((KR.u m ly).trans (KR.of_grown i λk q=>?_)).trans (KR.ab f 0 g);exact⟨(h.row.i.lt k q).1,.inr (.inr (bu h1.row.i k q))⟩
theorem ASt.moreA (h:ASt w b j (Z (T (Q g 0 Y)) (R.length+1) c) (R++[r]))(D:Below w.heap.size w q)
  (z:f.ownsRow j 151 3 m (r.1.f+1) (bJ r.1.H r.1.f++gV x)) (l:(q.alloc (J o ty)).grownBy f r.2.1.ownBlock) (F:m.ownBlock=r.2.1.ownBlock∨m.ownBlock=T (q.alloc (J o ty)).heap.size) :
  ASt (f.setCell (Q g (R.length*6+4) Y) m) b j (Z (T (Q g 0 Y)) (R.length+1) c) (R++[(r.1.doA x,m,r.2.2)])/\KR b j w (f.setCell (Q g (R.length*6+4) Y) m)/\f.cell? (Q g (R.length*6+4) Y)=T r.2.1/\f.frozen? (Q g (R.length*6+4) Y)=ZA/\g<f.heap.size/\AcB f b (Z (T (Q g 0 Y)) (R.length+1) c):=by
 have y:=D.alloc D.size (J o ty);have h1:=h.aa y;have H:(R++[r]).length=R.length+1:=by simp
 have s:=h1.row.i;rw[H] at s;have tg:=bu s g rfl;have p:=h1.row.sub r (by simp);have n:=(s.lt g rfl)
 have ZP:=DRow.moreA (x:=x) h1.row z l F;have ZQ:T b≠r.2.1.ownBlock:=λe=>by have:=(p.H.lt b e.symm).1;have:=h.lt;omega
 have C:T g≠r.2.1.ownBlock:=λe=>tg.ne (by decide) (bu p.H g e.symm);have t:AcB f b (Z (T (Q g 0 Y)) (R.length+1) c):=(l.block b h1.ab.lt ZQ).trans h1.ab;have A:f.heap[g]?=(q.alloc (J o ty)).heap[g]?:=l.block g n.2 C;have hz:w.heap.size<=f.heap.size:=p7 y.size l.size;have B:b≠g:=by have:=h.lt;omega
 have cell:=cR (by rw[H];exact s) (i:=R.length) (r:=r) (by simp) 4 (by omega) (u:=r.2.1) rfl;have E:OfTy f g 46:=tg.eq A;refine⟨⟨?_,ZP,h.lt,by have:=h.le;simp;omega⟩,?_,(cq (a:=(Q g _ Y)) A).trans cell.1,(JN (a:=(Q g _ Y)) A).trans cell.2,lj n.2 l.size,t⟩;{exact(qh _ _ _ _ B).trans t};{refine((KR.u y ly).trans (KR.of_grown l λk G=>?_)).trans (KR.cell f n.1 (.inr (.inr E)) _ _);exact⟨(p.H.lt k G).1,.inl (bu p.H k G)⟩}
theorem ASt.moreL{x:Link}(h:ASt w b j (Z (T (Q g 0 Y)) (R.length+1) c) (R++[r]))(D:Below w.heap.size w q)
  (z:f.ownsRow j 91 4 m (r.1.b+1) (bq r.1.D r.1.b++cQ x)) (l:(q.alloc (J o ty)).grownBy f r.2.2.ownBlock) (F:m.ownBlock=r.2.2.ownBlock∨m.ownBlock=T (q.alloc (J o ty)).heap.size) :
  ASt (f.setCell (Q g (R.length*6+5) Y) m) b j (Z (T (Q g 0 Y)) (R.length+1) c) (R++[(r.1.lkA x,r.2.1,m)])/\KR b j w (f.setCell (Q g (R.length*6+5) Y) m)/\f.cell? (Q g (R.length*6+5) Y)=T r.2.2/\f.frozen? (Q g (R.length*6+5) Y)=ZA/\g<f.heap.size/\AcB f b (Z (T (Q g 0 Y)) (R.length+1) c):=by
 have y:=D.alloc D.size (J o ty);have h1:=h.aa y;have H:(R++[r]).length=R.length+1:=by simp
 have s:=h1.row.i;rw[H] at s;have tg:=bu s g rfl;have p:=h1.row.sub r (by simp);have n:=(s.lt g rfl)
 have ZP:=DRow.moreL (x:=x) h1.row z l F;have ZQ:T b≠r.2.2.ownBlock:=λe=>by have:=(p.V.lt b e.symm).1;have:=h.lt;omega
 have C:T g≠r.2.2.ownBlock:=λe=>tg.ne (by decide) (bu p.V g e.symm);have t:AcB f b (Z (T (Q g 0 Y)) (R.length+1) c):=(l.block b h1.ab.lt ZQ).trans h1.ab;have A:f.heap[g]?=(q.alloc (J o ty)).heap[g]?:=l.block g n.2 C;have hz:w.heap.size<=f.heap.size:=p7 y.size l.size;have B:b≠g:=by have:=h.lt;omega
 have cell:=cR (by rw[H];exact s) (i:=R.length) (r:=r) (by simp) 5 (by omega) (u:=r.2.2) rfl;have E:OfTy f g 46:=tg.eq A;refine⟨⟨?_,ZP,h.lt,by have:=h.le;simp;omega⟩,?_,(cq (a:=(Q g _ Y)) A).trans cell.1,(JN (a:=(Q g _ Y)) A).trans cell.2,lj n.2 l.size,t⟩;{exact(qh _ _ _ _ B).trans t};{refine((KR.u y ly).trans (KR.of_grown l λk G=>?_)).trans (KR.cell f n.1 (.inr (.inr E)) _ _);exact⟨(p.V.lt k G).1,.inr (.inl (bu p.V k G))⟩}
