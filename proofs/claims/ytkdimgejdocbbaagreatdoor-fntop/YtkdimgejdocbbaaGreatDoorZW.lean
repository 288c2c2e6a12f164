import Derived.Test.YtkdimgejdocbbaaGreatDoorZU
import Derived.Test.YtkdimgejdocbbaaGreatDoorZC
open Go.Addr renaming mk->J
open Go.Value renaming slice->Y,string->U,int->N
open Option renaming none->Z,some->Q
open Go.IntKind renaming i64->I
open Go renaming World->E,Value->QB,TypeId->QF
namespace Go.Proofs.YtkdimgejdocbbaaGreatDoor.Vp
open RowKit Ca
def ip (x:Link):List QB:=[U x.name,.bool x.ask,.bool x.has,N I x.at_]
def jC (f:Nat->Link)(n:Nat):List QB:=((List.range n).map f).flatMap ip
theorem xW (f:Nat->Link)(n:Nat):(jC f n).length=n*4:=by rw[jC,nf ip 4 (fun _=>rfl)];simp
theorem rN (f:Nat->Link){n i:Nat}(hi:i<n)(j:Nat)(b:j<4):(jC f n)[i*4+j]?=(ip (f i))[j]? :=
 cS ip 4 (fun _=>rfl) _ i j b (f i) (by simp[hi])
theorem E9 {w:E}{b off n:Nat}{f:Nat->Link}(h:RowLink w b off n f):∀ j u,(jC f n)[j]?=Q u->w.cell? (((J b off Z):Addr).add j)=Q u:=by
 intro j u d;have hl:j<n*4:=by have:=(kS.1 d).1;rwa[xW] at this
 have e:j=j / 4*4+j % 4:=by omega
 have hi:j / 4<n:=by omega
 obtain⟨l,h1,h2,g⟩:=h.2 (j / 4) hi;have k:j % 4<4:=NE _ (by omega);rw[e,rN f hi (j % 4) k] at d;have i:((J b off Z):Addr).add j=(J b (off+j) Z):=addr_add _ _ _;rw[i];rcases(show j % 4=0∨j % 4=1∨j % 4=2∨j % 4=3 by omega) with q | q | q | q;all_goals rw[q] at d;simp[ip] at d;subst d
 ·rw[show off+j=off+j / 4*4 by omega];exact l
 ·rw[show off+j=off+j / 4*4+1 by omega];exact h1
 ·rw[show off+j=off+j / 4*4+2 by omega];exact h2
 ·rw[show off+j=off+j / 4*4+3 by omega];exact g
theorem rO {w l:E}{b size n:Nat}{e:QF}{v:QB}{i:List QB}(h:w.ownsRow b e size v n i)(hb:∀ k,v.ownBlock=Q k->OfTy w k e->l.heap[k]?=w.heap[k]?):l.ownsRow b e size v n i:=by
 refine⟨h.1,?_⟩;rcases h.2 with o | ⟨g,j,f,rfl,m,d,rest⟩
 ·exact .inl o
 ·exact .inr ⟨g,j,f,rfl,m,(hb g rfl ⟨f,_,d⟩).trans d,rest⟩
theorem ww {w:E}{b size n:Nat}{e:QF}{v:QB}{i:List QB}(h:w.ownsRow b e size v n i):∀ k,v.ownBlock=Q k->OfTy w k e:=by
 intro k d;rcases h.2 with ⟨rfl,_⟩ | ⟨g,cap,f,rfl,_,j,_⟩
 ·simp[Value.ownBlock] at d
 ·simp[Value.ownBlock] at d
  subst d;exact⟨f,_,j⟩
theorem iL {w:E}{b size n:Nat}{e:QF}{v:QB}{f:List QB}(h:w.ownsRow b e size v n f)(hn:0<n):∃ g d,v=Y (Q (J g 0 Z)) n d:=by
 rcases h.2 with ⟨_,h2⟩ | ⟨g,c,cur,h1,_⟩
 ·omega
 ·exact⟨g,c,h1⟩
theorem rP {w:E}{b size n:Nat}{e:QF}{v:QB}{f:List QB}(h:w.ownsRow b e size v n f):∃ a d,v=Y a n d:=by
 rcases h.2 with ⟨h1,h2⟩ | ⟨g,c,cur,h1,_⟩
 ·exact⟨Z,0,by rw[h1,h2]⟩
 ·exact⟨_,_,h1⟩
abbrev DR:=aj × QB × QB
def ddV (r:DR):List QB:=[U r.1.name,N I r.1.kind,N I r.1.code,U r.1.text,r.2.1,r.2.2]
structure DSub (w:E)(base:Nat)(r:DR):Prop where
 act:w.ownsRow base 188 3 r.2.1 r.1.actN (cB r.1.act r.1.actN)
 lnk:w.ownsRow base 64 4 r.2.2 r.1.linksN (jC r.1.links r.1.linksN)
def Apt (a b:QB):Prop:=a.ownBlock=Z∨a.ownBlock≠b.ownBlock
structure DRow (w:E)(base:Nat)(v:QB)(R:List DR):Prop where
 own:w.ownsRow base 58 6 v R.length (R.flatMap ddV)
 sub:∀ r∈R,DSub w base r
 up:R.Pairwise fun a b=>Apt a.2.1 b.2.1/\Apt a.2.2 b.2.2
theorem DSub.blk {w w':E}{b:Nat}{r:DR}(h:DSub w b r)(hb:∀ k,OfTy w k 188∨OfTy w k 64->b<=k->w'.heap[k]?=w.heap[k]?):DSub w' b r :=
 ⟨rO h.act fun k d f=>hb k (.inl f) (h.act.lt k d).1,rO h.lnk fun k d f=>hb k (.inr f) (h.lnk.lt k d).1⟩
theorem DSub.below {w f:E}{b B:Nat}{r:DR}(h:DSub w b r)(hb:Below B w f)(d:w.heap.size<=B):DSub f b r:=⟨own_below h.act hb d,own_below h.lnk hb d⟩
theorem DSub.mono {w:E}{b base':Nat}{r:DR}(h:DSub w b r)(hb:base'<=b):DSub w base' r:=⟨aI h.act hb,aI h.lnk hb⟩
theorem DRow.blk {w w':E}{b:Nat}{v:QB}{R:List DR}(h:DRow w b v R)(hb:∀ k,OfTy w k 188∨OfTy w k 64∨OfTy w k 58->b<=k->w'.heap[k]?=w.heap[k]?):DRow w' b v R :=
 ⟨rO h.own fun k d f=>hb k (.inr (.inr f)) (h.own.lt k d).1,fun r g=>(h.sub r g).blk fun k d=>hb k (d.imp id .inl),h.up⟩
theorem DRow.below {w f:E}{b B:Nat}{v:QB}{R:List DR}(h:DRow w b v R)(hb:Below B w f)(d:w.heap.size<=B):DRow f b v R :=
 ⟨own_below h.own hb d,fun r g=>(h.sub r g).below hb d,h.up⟩
theorem DRow.mono {w:E}{b base':Nat}{v:QB}{R:List DR}(h:DRow w b v R)(hb:base'<=b):DRow w base' v R:=⟨aI h.own hb,fun r d=>(h.sub r d).mono hb,h.up⟩
theorem DRow.set {w:E}{b:Nat}{v:QB}{R:List DR}(h:DRow w b v R){p:Addr}{e:QF}(g:p.block<b∨(OfTy w p.block e/\e≠188/\e≠64/\e≠58))(u:QB):DRow (w.setCell p u) b v R :=
 h.blk fun k d hb=>qh _ _ _ _ (fun x=>by
  subst x;rcases g with g | ⟨f,h1,h2,i⟩
  ·omega
  ·rcases d with d | d | d
   ·exact f.ne (Ne.symm h1) d
   ·exact f.ne (Ne.symm h2) d
   ·exact f.ne (Ne.symm i) d)
theorem zL (w:E)(b:Nat):DRow w b (Y Z 0 0) []:=⟨E4 _ _ _ _,fun r d=>absurd d (by simp),List.Pairwise.nil⟩
theorem DRow.more {w g l:E}{f:Nat}{v y:QB}{R:List DR}{r:DR}(h:DRow w f v R)(h1:DRow g f v R)(j:f<=w.heap.size)(n:DSub g w.heap.size r)
  (o:l.ownsRow f 58 6 y (R.length+1) (R.flatMap ddV++ddV r)) (s:g.grownBy l v.ownBlock):DRow l f y (R++[r]):=by
 have p:∀ k,OfTy g k 188∨OfTy g k 64->Q k≠v.ownBlock:=fun k d e=>by
  have q:=ww h1.own k e.symm;rcases d with d | d
  ·exact q.ne (by decide) d
  ·exact q.ne (by decide) d
 have u:∀ k,OfTy g k 188∨OfTy g k 64->k<g.heap.size:=fun k d=>by rcases d with ⟨c,z,d⟩ | ⟨c,z,d⟩<;>exact(x4.1 d).1
 have keep:∀ k,OfTy g k 188∨OfTy g k 64->l.heap[k]?=g.heap[k]?:=fun k d=>s.block k (u k d) (p k d);refine⟨by simpa using o,fun x i=>?_,?_⟩
 ·rcases kP.1 i with i | i
  ·exact(h1.sub x i).blk fun k d _=>keep k d
  ·simp at i
   subst i;exact(n.blk fun k d _=>keep k d).mono j
 ·rw[IX]
  refine⟨h.up,by simp,fun a A b m=>?_⟩;simp at m;subst m;have t:=h.sub a A;refine⟨?_,?_⟩
  ·cases d:a.2.1.ownBlock with
   | none=>exact .inl d
   | some k =>refine .inr fun e=>?_;have h1:=(t.act.lt k d).2;have h2:=(n.act.lt k (e ▸ d)).1;omega
  ·cases d:a.2.2.ownBlock with
   | none=>exact .inl d
   | some k =>refine .inr fun e=>?_;have h1:=(t.lnk.lt k d).2;have h2:=(n.lnk.lt k (e ▸ d)).1;omega
theorem zN {w:E}{b n g d:Nat}{f:Nat->Link}(h:w.ownsRow b 64 4 (Y (Q (J g 0 Z)) n d) n (jC f n)):RowLink w g 0 n f:=by
 refine⟨(dR h).2,fun i hi=>?_⟩;have c:∀ j,j<4->∀ u,(ip (f i))[j]?=Q u->w.cell? (J g (0+i*4+j) Z)=Q u:=fun j k u l=>by have:=(bv h (j:=i*4+j) (u:=u) (by rw[rN f hi j k];exact l)).1;rwa[show 0+i*4+j=i*4+j by omega]
 exact⟨c 0 (by omega) _ rfl,c 1 (by omega) _ rfl,c 2 (by omega) _ rfl,c 3 (by omega) _ rfl⟩
theorem DSub.ins {w:E}{d:Nat}{r:DR}(h:DSub w d r):∃ a b,r.2.1=Y a r.1.actN b/\SlIns w a r.1.actN r.1.act:=by
 obtain⟨a,b,e⟩:=rP h.act;refine⟨a,b,e,?_⟩;by_cases hz:r.1.actN=0
 ·exact .inl hz
 ·obtain⟨g,c,f⟩:=iL h.act (by omega)
  have i:=h.act;rw[f] at i;rw[e] at f;cases f
  exact .inr ⟨g,0,rfl,(jN i).1⟩
theorem DSub.links {w:E}{d:Nat}{r:DR}(h:DSub w d r):∃ a b,r.2.2=Y a r.1.linksN b/\SlLink w a r.1.linksN r.1.links:=by
 obtain⟨a,b,e⟩:=rP h.lnk;refine⟨a,b,e,?_⟩;by_cases hz:r.1.linksN=0
 ·exact .inl hz
 ·obtain⟨g,c,f⟩:=iL h.lnk (by omega)
  have i:=h.lnk;rw[f] at i;rw[e] at f;cases f
  exact .inr ⟨g,0,rfl,zN i⟩
theorem Cv {R:List DR}{i:Nat}(hi:i<R.length):∃ r,R[i]?=Q r/\r∈R:=⟨R[i],gq hi,gz hi⟩
theorem EI {R:List DR}{i:Nat}{r:DR}(h:R[i]?=Q r):dF (R.map (·.1)) i=r.1:=by unfold dF;rw[vF,ID,h];rfl
theorem xX {w:E}{b g d:Nat}{R:List DR}(h:w.ownsRow b 58 6 (Y (Q (J g 0 Z)) R.length d) R.length (R.flatMap ddV)){i:Nat}{r:DR}(l:R[i]?=Q r)(j:Nat)(f:j<6){u:QB}(k:(ddV r)[j]?=Q u):w.cell? (J g (i*6+j) Z)=Q u/\w.frozen? (J g (i*6+j) Z)=false :=
 bv h (j:=i*6+j) (u:=u) (by rw[cS ddV 6 (fun _=>rfl) R i j f r l];exact k)
theorem DRow.deeds {w:E}{b c:Nat}{a:Option Addr}{R:List DR}(h:DRow w b (Y a R.length c) R):SlDeed w a R.length (dF (R.map (·.1))):=by
 by_cases hz:R.length=0
 ·exact .inl hz
 ·obtain⟨g,c',e⟩:=iL h.own (by omega)
  cases e
  refine .inr ⟨g,0,rfl,(dR h.own).2,fun i hi=>?_⟩;obtain⟨r,d,f⟩:=Cv hi;rw[EI d];have c:∀ j,j<6->∀ u,(ddV r)[j]?=Q u->w.cell? (J g (0+i*6+j) Z)=Q u:=fun j l u o=>by rw[show 0+i*6+j=i*6+j by omega];exact(xX h.own d j l o).1
  obtain⟨q,c4,k,p⟩:=(h.sub r f).ins;obtain⟨n,c5,m,s⟩:=(h.sub r f).links;exact⟨c 0 (by omega) _ rfl,c 1 (by omega) _ rfl,c 2 (by omega) _ rfl,c 3 (by omega) _ rfl,⟨q,c4,by rw[<-k];exact c 4 (by omega) _ rfl,p⟩,⟨n,c5,by rw[<-m];exact c 5 (by omega) _ rfl,s⟩⟩
def rAt (R:List DR)(i:Nat):DR:=R.getD i (xN,Y Z 0 0,Y Z 0 0)
def ra (R:List DR)(i:Nat):Nat:=(rAt R i).1.actN
def rl (R:List DR)(i:Nat):Nat:=(rAt R i).1.linksN
end Go.Proofs.YtkdimgejdocbbaaGreatDoor.Vp
