import Derived.Test.YtpmnbjkjpnclaaaGreatDoorSR
import Derived.Test.YtpmnbjkjpnclaaaGreatDoorSC
import Derived.Test.YtpmnbjkjpnclaaaGreatDoorSP
import Derived.Lib.SliceRun
set_option maxRecDepth 100000
set_option maxHeartbeats 2000000
open Go renaming Addr.mk->Q,Value.slice->Z,Value.string->Y,Value.int->J,Obj.cells->N,IntKind.i64->I,World->M,Value->ZC,TypeId->ZH,Ending.returned->ZF,World.alloc->A
open Option renaming none->U,some->T
open Bool renaming false->ZA
namespace Go.Proofs.YtpmnbjkjpnclaaaGreatDoor.Vp
open Tryz RowKit
variable {w w' W:M}{b n size g cap i c B off base':Nat}{e:ZH}{f j:List ZC}{u:ZC}
theorem addr_add (b off j:Nat):((Q b off U):Addr).add j=(Q b (off+j) U):=by unfold Addr.add;split<;>simp_all
theorem dt {c:Type}(g:c->List ZC)(C:Nat)(b:∀x,(g x).length=C):∀(L:List c) (i j:Nat) (_:j<C) (x:c),L[i]?=T x->(L.flatMap g)[i*C+j]?=(g x)[j]?
 |[],i,j,_,x,h=>by simp at h
 |y::L,0,j,hj,x,h=>by simp at h;subst h;rw[J2,WH,FM,N9 (by rw[b];exact hj)]
 |y::L,i+1,j,hj,x,h=>by simp at h;rw[J2,IX (by rw[b,Nat.succ_mul];omega),b,show(i+1)*C+j - C=i*C+j by rw[Nat.succ_mul];omega];exact dt g C b L i j hj x h
theorem eW {b:Type}(g:b->List ZC)(C:Nat)(c:∀x,(g x).length=C):∀L:List b,(L.flatMap g).length=L.length*C
 |[]=>by simp
 |y::L=>by rw[J2,cM,c,eW g C c L,eL,Nat.succ_mul];omega
def gT (x:Ins):List ZC:=[J I x.op,Y x.s,J I x.n]
def bJ (f:Nat->Ins)(n:Nat):List ZC:=((List.range n).map f).flatMap gT
theorem oS (f:Nat->Ins)(n:Nat):(bJ f n).length=n*3:=by rw[bJ,eW gT 3 (λ_=>rfl)];simp
theorem nP (f:Nat->Ins)(hi:i<n)(j:Nat)(b:j<3):(bJ f n)[i*3+j]?=(gT (f i))[j]? :=
 dt gT 3 (λ_=>rfl) _ i j b (f i) (by simp[hi])
theorem Ed (f:Nat->Ins)(n:Nat):∀u∈bJ f n,u.oneCell'=true:=by intro u b;simp only[bJ,PV,gT] at b;obtain⟨x,_,c⟩:=b;simp at c;rcases c with rfl|rfl|rfl<;>simp[Value.oneCell']
theorem xQ{f:Nat->Ins}(h:RowIns w b off n f):∀j u,(bJ f n)[j]?=T u->w.cell? (((Q b off U):Addr).add j)=T u:=by
 intro j u c;have hl:j<n*3:=by have:=(n8.1 c).1;rwa[oS] at this
 have e:j=j / 3*3+j % 3:=by omega
 have hi:j / 3<n:=by omega
 obtain⟨g,h1,h2⟩:=h.2 (j / 3) hi;have l:j % 3<3:=TX _ (by omega);rw[e,nP f hi (j % 3) l] at c;have i:((Q b off U):Addr).add j=(Q b (off+j) U):=addr_add _ _ _;rw[i];rcases(show j % 3=0∨j % 3=1∨j % 3=2 by omega) with q|q|q;all_goals rw[q] at c;simp[gT] at c;subst c
 {rw[show off+j=off+j / 3*3 by omega];exact g};{rw[show off+j=off+j / 3*3+1 by omega];exact h1};{rw[show off+j=off+j / 3*3+2 by omega];exact h2}
theorem cP (h:w.ownsRow c e size (Z (T (Q g 0 U)) n cap) n f){j:Nat}(m:f[j]?=T u):w.cell? (Q g j U)=T u/\w.frozen? (Q g j U)=ZA:=by
 refine⟨?_,?_⟩
 ·have:=h.cells (g:=g) rfl j u m;have l:((Q g 0 U):Addr).add j=(Q g j U):=by rw[addr_add];simp
  rwa[l] at this
 ·rcases h.2 with ⟨b,_⟩|⟨g',cap',cur,b,_,i,_⟩
  {simp at b};{simp at b;obtain⟨rfl,rfl⟩:=b;simp[World.frozen?,i]}
theorem dM{c:List ZC}(h:w.ownsRow b e size (Z (T (Q g 0 U)) n cap) n c):b<=g/\g<w.heap.size:=h.lt g rfl
def TypeAt (w:M)(g:Nat)(e:ZH):Prop:=∃b,w.heap[g]?=T (N b e (0,0))
theorem lT (h:w.ownsRow c e size (Z (T (Q g 0 U)) n cap) n j):TypeAt w g e:=by
 rcases h.2 with ⟨b,_⟩|⟨g',cap',f,b,_,i,_⟩
 {simp at b};{simp at b;obtain⟨rfl,rfl⟩:=b;exact⟨f,i⟩}
theorem iC{k:Nat}{i:ZH}(h:TypeAt w g e)(j:TypeAt w k i)(f:e≠i):g≠k:=by rintro rfl;obtain⟨c,l⟩:=h;obtain⟨d,b⟩:=j;rw[l] at b;simp at b;exact f b.2
theorem aQ{R j:Nat}{v:ZC}(h:w.ownsRow b e size v n f)(hR:R<b)(u:ZC):(w.setCell (Q R j U) u).ownsRow b e size v n f:=by
 refine h.kept (row:=T R) ⟨rfl,rfl,rfl,by simp[World.setCell],λk _ c=>qh _ _ _ _ (by simpa using c)⟩ ?_;rcases h.2 with ⟨rfl,_⟩|⟨g,cap,cur,rfl,hg,_⟩
 {exact .inl rfl};{right;simp[Value.ownBlock];omega}
theorem nQ{f:Nat->Ins}(h:w.ownsRow c 151 3 (Z (T (Q g 0 U)) n cap) n (bJ f n)):RowIns w g 0 n f/\∃F,Cells w g 0 (n*3) F:=by
 have b:=(dM h).2;refine⟨⟨b,λi hi=>⟨?_,?_,?_⟩⟩,λj=>(bJ f n)[j]?.getD undef,b,λj m=>?_⟩;{have:=(cP h (j:=i*3) (u:=J I (f i).op) (by have:=nP f hi 0 (by omega);simpa[gT] using this)).1;rwa[show 0+i*3=i*3 by omega]};{have:=(cP h (j:=i*3+1) (u:=Y (f i).s) (by have:=nP f hi 1 (by omega);simpa[gT] using this)).1;rwa[show 0+i*3+1=i*3+1 by omega]};{have:=(cP h (j:=i*3+2) (u:=J I (f i).n) (by have:=nP f hi 2 (by omega);simpa[gT] using this)).1;rwa[show 0+i*3+2=i*3+2 by omega]}
 ·rw[FM];have l:j<(bJ f n).length:=by rw[oS];exact m
  have:=cP h (j:=j) (u:=(bJ f n)[j]) (by rw[gq l]);show w.cell? _=T ((bJ f n)[j]?.getD undef)/\_;rw[gq l];exact this
theorem jl (b off n cap:Nat)(f:Nat->Ins)(w:M)(hn:(n:Int)<=1048576)(r:RowIns w b off n f):Calls Tryz.prog 93 #[.agg #[Z (T (Q b off U)) n cap]] w λe u=>∃g c,e=ZF (.agg #[Z (T (Q g 0 U)) n c])/\u.ownsRow w.heap.size 151 3 (Z (T (Q g 0 U)) n c) n (bJ f n)/\Below w.heap.size w u:=by
 have z:=ae (((q9 w).alloc ly (N #[Z (T (Q b off U)) n cap] 43)).alloc (by simp) (N #[Z U 0 0] 43));have t:((A w (N #[Z (T (Q b off U)) n cap] 43)).alloc (N #[Z U 0 0] 43)).cell? (Q (w.heap.size+1) 0 U)=T (Z U 0 0):=by simp
 have E:((A w (N #[Z (T (Q b off U)) n cap] 43)).alloc (N #[Z U 0 0] 43)).cell? (Q w.heap.size 0 U)=T (Z (T (Q b off U)) n cap):=by simp
 have z0:((A w (N #[Z (T (Q b off U)) n cap] 43)).alloc (N #[Z U 0 0] 43)).frozen? (Q (w.heap.size+1) 0 U)=ZA:=by simp
 have hz:((A w (N #[Z (T (Q b off U)) n cap] 43)).alloc (N #[Z U 0 0] 43)).heap.size=w.heap.size+1+1:=by simp
 have q:=ae (r.aa z ly);clear r;obtain⟨s,hi,o,x,ZR⟩:=L8 li;go_enter func93,ntmps93;have y:=ae ((dB (w.heap.size+1+1) ((A w (N #[Z (T (Q b off U)) n cap] 43)).alloc (N #[Z U 0 0] 43))).alloc (by simp) (N #[] 151));have F:=ae (q.aa y (by simp));go_wp2_with (at_builtin;refine BS _ rfl (.tmp 3) (.tmp 5) 41 rfl (w.heap.size+1+1) 151 s (.agg #[J I 0,Y ⟨#[]⟩,J I 0]) 3 32 RB hi o x ZR rfl (by decide) (Z (T (Q (w.heap.size+1+1) 0 U)) 0 0) 0 [] (by simp[Act.eval]) (by have:=PS (base:=w.heap.size+1+1) (e:=151) (size:=3) ((A w (N #[Z (T (Q b off U)) n cap] 43)).alloc (N #[Z U 0 0] 43)) #[] 0 (by simp) (by unfold maxLen;omega) rfl;simpa using this) (Q b off U) n cap (bJ f n) (by simp[Act.eval]) (oS f n) (xQ F) (Ed f n) (by unfold maxLen;omega) (by omega) (by simp<;>omega) ?_;intro G w2 h i l;simp only[FM,LN] at h;obtain⟨g,c,rfl⟩:∃g c,G=Z (T (Q g 0 U)) n c:=(by rcases h.2 with ⟨rfl,_⟩|⟨g,c,cur,rfl,_⟩;(have:=l.1 rfl;simp at this);exact⟨g,c,rfl⟩);have m:=ae (bg y i (by simp<;>omega) (λj e=>by simp[Value.ownBlock] at e;omega));have D:=ae (z.trans (m.mono (by omega)));have C:=(m.cell (p:=(Q (w.heap.size+1) 0 U)) (by simp)).trans t;have lz:=(m.frozen (p:=(Q (w.heap.size+1) 0 U)) (by simp)).trans z0;have B:=ae (aB (aQ (R:=w.heap.size+1) (j:=0) h (by omega) (Z (T (Q g 0 U)) n c)) (base':=w.heap.size) (by omega));clear h i l t E z0);exact bp (v:=.agg #[Z (T (Q g 0 U)) n c]) (by simp[results,results93,go_sem,C]) rfl ⟨g,c,rfl,B,D.setCell (by simp) _⟩
def bK (x:Source):List ZC:=[Y x.e,Y x.B]
theorem tC (a:Option Addr)(cap:Nat)(w:M):Calls Tryz.prog 93 #[.agg #[Z a 0 cap]] w λe t=>∃g c,e=ZF (.agg #[Z (T (Q g 0 U)) 0 c])/\t.ownsRow w.heap.size 151 3 (Z (T (Q g 0 U)) 0 c) 0 []/\Below w.heap.size w t:=by
 have hz:((A w (N #[Z a 0 cap] 43)).alloc (N #[Z (T (Q (w.heap.size+1+1) 0 U)) 0 0] 43)).heap.size=w.heap.size+1+1:=by simp
 have z:=ae ((((q9 w).alloc ly (N #[Z a 0 cap] 43)).alloc (by simp) (N #[Z (T (Q (w.heap.size+1+1) 0 U)) 0 0] 43)).alloc (by rw[hz];omega) (N #[] 151));have r:Hid ((((A w (N #[Z a 0 cap] 43)).alloc (N #[Z (T (Q (w.heap.size+1+1) 0 U)) 0 0] 43)).alloc (N #[] 151)).ownsRow w.heap.size 151 3 (Z (T (Q (w.heap.size+1+1) 0 U)) 0 0) 0 []):=by have h:=PS (base:=w.heap.size) (e:=151) (size:=3) ((A w (N #[Z a 0 cap] 43)).alloc (N #[Z (T (Q (w.heap.size+1+1) 0 U)) 0 0] 43)) #[] 0 (by rw[hz];omega) (by unfold maxLen;omega) rfl;rw[hz] at h;exact h
 have n:((A w (N #[Z a 0 cap] 43)).alloc (N #[Z U 0 0] 43)).cell? (Q (w.heap.size+1) 0 U)=T (Z U 0 0):=by simp
 have x:((A w (N #[Z a 0 cap] 43)).alloc (N #[Z U 0 0] 43)).cell? (Q w.heap.size 0 U)=T (Z a 0 cap):=by simp
 have z0:((A w (N #[Z a 0 cap] 43)).alloc (N #[Z U 0 0] 43)).frozen? (Q (w.heap.size+1) 0 U)=ZA:=by simp
 cases a with
 |none =>clear n x z0;go_enter func93,ntmps93;go_wp2;exact bp (v:=.agg #[Z (T (Q (w.heap.size+1+1) 0 U)) 0 0]) (by simp[results,results93,go_sem]) rfl ⟨_,_,rfl,r,z⟩
 |some l =>
  have G:=ae (((q9 w).alloc ly (N #[Z (T l) 0 cap] 43)).alloc (by simp) (N #[Z U 0 0] 43));have hz2:((A w (N #[Z (T l) 0 cap] 43)).alloc (N #[Z U 0 0] 43)).heap.size=w.heap.size+1+1:=by simp
  obtain⟨s,hi,q,y,ZR⟩:=L8 li;have B:=ae ((dB (w.heap.size+1+1) ((A w (N #[Z (T l) 0 cap] 43)).alloc (N #[Z U 0 0] 43))).alloc (by simp) (N #[] 151));clear z r hz;go_enter func93,ntmps93;go_wp2_with (at_builtin;refine BS _ rfl (.tmp 3) (.tmp 5) 41 rfl (w.heap.size+1+1) 151 s (.agg #[J I 0,Y ⟨#[]⟩,J I 0]) 3 32 RB hi q y ZR rfl (by decide) (Z (T (Q (w.heap.size+1+1) 0 U)) 0 0) 0 [] (by simp[Act.eval]) (by have:=PS (base:=w.heap.size+1+1) (e:=151) (size:=3) ((A w (N #[Z (T l) 0 cap] 43)).alloc (N #[Z U 0 0] 43)) #[] 0 (by simp) (by unfold maxLen;omega) rfl;simpa using this) l 0 cap [] (by simp[Act.eval]) rfl (λj u o=>by simp at o) (λu o=>by simp at o) (by unfold maxLen;omega) (by omega) (by simp<;>omega) ?_;intro F w2 b f i;simp only[FM,LN] at b;obtain⟨g,c,rfl⟩:∃g c,F=Z (T (Q g 0 U)) 0 c:=(by rcases b.2 with ⟨rfl,_⟩|⟨g,c,cur,rfl,_⟩;(have:=i.1 rfl;simp at this);exact⟨g,c,rfl⟩);have m:=ae (bg B f (by simp<;>omega) (λj e=>by simp[Value.ownBlock] at e;omega));have E:=ae (G.trans (m.mono (by omega)));have D:=(m.cell (p:=(Q (w.heap.size+1) 0 U)) (by simp)).trans n;have lz:=(m.frozen (p:=(Q (w.heap.size+1) 0 U)) (by simp)).trans z0;have C:=ae (aB (aQ (R:=w.heap.size+1) (j:=0) b (by omega) (Z (T (Q g 0 U)) 0 c)) (base':=w.heap.size) (by omega));clear b f i n x z0);exact bp (v:=.agg #[Z (T (Q g 0 U)) 0 c]) (by simp[results,results93,go_sem,D]) rfl ⟨g,c,rfl,C,E.setCell (by simp) _⟩
theorem jm (a:Option Addr)(n cap:Nat)(f:Nat->Ins)(w:M)(hn:(n:Int)<=1048576)(h:SlIns w a n f):Calls Tryz.prog 93 #[.agg #[Z a n cap]] w λe i=>∃g c,e=ZF (.agg #[Z (T (Q g 0 U)) n c])/\i.ownsRow w.heap.size 151 3 (Z (T (Q g 0 U)) n c) n (bJ f n)/\Below w.heap.size w i:=by
 rcases h with rfl|⟨b,off,rfl,h⟩
 {exact tC a cap w};{exact jl b off n cap f w hn h}
open Ca
def cQ (x:Link):List ZC:=[Y x.e,.bool x.ask,.bool x.has,J I x.L]
def bq (f:Nat->Link)(n:Nat):List ZC:=((List.range n).map f).flatMap cQ
theorem jb (f:Nat->Link)(n:Nat):(bq f n).length=n*4:=by rw[bq,eW cQ 4 (λ_=>rfl)];simp
theorem jR (f:Nat->Link)(hi:i<n)(j:Nat)(b:j<4):(bq f n)[i*4+j]?=(cQ (f i))[j]? :=
 dt cQ 4 (λ_=>rfl) _ i j b (f i) (by simp[hi])
theorem AU (f:Nat->Link)(n:Nat):∀u∈bq f n,u.oneCell'=true:=by intro u b;simp only[bq,PV,cQ] at b;obtain⟨x,_,c⟩:=b;simp at c;rcases c with rfl|rfl|rfl|rfl<;>simp[Value.oneCell']
theorem Ee{f:Nat->Link}(h:RowLink w b off n f):∀j u,(bq f n)[j]?=T u->w.cell? (((Q b off U):Addr).add j)=T u:=by
 intro j u c;have hl:j<n*4:=by have:=(n8.1 c).1;rwa[jb] at this
 have e:j=j / 4*4+j % 4:=by omega
 have hi:j / 4<n:=by omega
 obtain⟨g,h1,h2,h3⟩:=h.2 (j / 4) hi;have i:j % 4<4:=TX _ (by omega);rw[e,jR f hi (j % 4) i] at c;have l:((Q b off U):Addr).add j=(Q b (off+j) U):=addr_add _ _ _;rw[l];rcases(show j % 4=0∨j % 4=1∨j % 4=2∨j % 4=3 by omega) with q|q|q|q;all_goals rw[q] at c;simp[cQ] at c;subst c
 {rw[show off+j=off+j / 4*4 by omega];exact g};{rw[show off+j=off+j / 4*4+1 by omega];exact h1};{rw[show off+j=off+j / 4*4+2 by omega];exact h2};{rw[show off+j=off+j / 4*4+3 by omega];exact h3}
theorem bD{i:M}{v:ZC}(h:w.ownsRow b e size v n j)(hb:∀k,v.ownBlock=T k->OfTy w k e->i.heap[k]?=w.heap[k]?):i.ownsRow b e size v n j:=by
 refine⟨h.1,?_⟩;rcases h.2 with hn|⟨g,cap,c,rfl,l,f,rest⟩
 {exact .inl hn};{exact .inr ⟨g,cap,c,rfl,l,(hb g rfl ⟨c,_,f⟩).trans f,rest⟩}
theorem bu{v:ZC}(h:w.ownsRow b e size v n j):∀k,v.ownBlock=T k->OfTy w k e:=by
 intro k c;rcases h.2 with ⟨rfl,_⟩|⟨g,cap,f,rfl,_,i,_⟩
 {simp[Value.ownBlock] at c};{simp[Value.ownBlock] at c;subst c;exact⟨f,_,i⟩}
theorem cC{v:ZC}(h:w.ownsRow b e size v n f)(hn:0<n):∃g cap,v=Z (T (Q g 0 U)) n cap:=by
 rcases h.2 with ⟨_,h2⟩|⟨g,c,cur,h1,_⟩
 {omega};{exact⟨g,c,h1⟩}
theorem cJ{v:ZC}(h:w.ownsRow b e size v n f):∃a cap,v=Z a n cap:=by
 rcases h.2 with ⟨h1,h2⟩|⟨g,c,cur,h1,_⟩
 {exact⟨U,0,by rw[h1,h2]⟩};{exact⟨_,_,h1⟩}
abbrev DR:=Deed × ZC × ZC
def ddV (r:DR):List ZC:=[Y r.1.e,J I r.1.m,J I r.1.E,Y r.1.B,r.2.1,r.2.2]
structure DSub (w:M)(base:Nat)(r:DR):Prop where
 H:w.ownsRow base 151 3 r.2.1 r.1.f (bJ r.1.H r.1.f)
 V:w.ownsRow base 91 4 r.2.2 r.1.b (bq r.1.D r.1.b)
def Apt (a b:ZC):Prop:=a.ownBlock=U∨a.ownBlock≠b.ownBlock
structure DRow (w:M)(base:Nat)(v:ZC)(R:List DR):Prop where
 i:w.ownsRow base 46 6 v R.length (R.flatMap ddV)
 sub:∀r∈R,DSub w base r
 up:R.Pairwise λa b=>Apt a.2.1 b.2.1/\Apt a.2.2 b.2.2
theorem DSub.ab{r:DR}(h:DSub w b r)(hb:∀k,OfTy w k 151∨OfTy w k 91->b<=k->w'.heap[k]?=w.heap[k]?):DSub w' b r :=
 ⟨bD h.H λk c f=>hb k (.inl f) (h.H.lt k c).1,bD h.V λk c f=>hb k (.inr f) (h.V.lt k c).1⟩
theorem DSub.aa{c:M}{r:DR}(h:DSub w b r)(hb:Below B w c)(f:w.heap.size<=B):DSub c b r:=⟨own_below h.H hb f,own_below h.V hb f⟩
theorem DSub.mono{r:DR}(h:DSub w b r)(hb:base'<=b):DSub w base' r:=⟨aB h.H hb,aB h.V hb⟩
theorem DRow.ab{v:ZC}{R:List DR}(h:DRow w b v R)(hb:∀k,OfTy w k 151∨OfTy w k 91∨OfTy w k 46->b<=k->w'.heap[k]?=w.heap[k]?):DRow w' b v R :=
 ⟨bD h.i λk c g=>hb k (.inr (.inr g)) (h.i.lt k c).1,λr f=>(h.sub r f).ab λk c=>hb k (c.imp id .inl),h.up⟩
theorem DRow.aa{c:M}{v:ZC}{R:List DR}(h:DRow w b v R)(hb:Below B w c)(f:w.heap.size<=B):DRow c b v R :=
 ⟨own_below h.i hb f,λr g=>(h.sub r g).aa hb f,h.up⟩
theorem DRow.mono{v:ZC}{R:List DR}(h:DRow w b v R)(hb:base'<=b):DRow w base' v R:=⟨aB h.i hb,λr c=>(h.sub r c).mono hb,h.up⟩
theorem DRow.set{v:ZC}{R:List DR}(h:DRow w b v R){p:Addr}(g:p.block<b∨(OfTy w p.block e/\e≠151/\e≠91/\e≠46))(u:ZC):DRow (w.setCell p u) b v R :=
 h.ab λk c hb=>qh _ _ _ _ (λx=>by
  subst x;rcases g with g|⟨f,h1,h2,h3⟩
  ·omega
  ·rcases c with c|c|c
   ·exact f.ne (WJ h1) c
   ·exact f.ne (WJ h2) c
   ·exact f.ne (WJ h3) c)
theorem cA (w:M)(b:Nat):DRow w b (Z U 0 0) []:=⟨A9 _ _ _ _,λr c=>absurd c (by simp),List.Pairwise.nil⟩
theorem DRow.more{i m:M}{v q:ZC}{R:List DR}{r:DR}(h:DRow w g v R)(h1:DRow i g v R)(l:g<=w.heap.size)(o:DSub i w.heap.size r)
  (p:m.ownsRow g 46 6 q (R.length+1) (R.flatMap ddV++ddV r)) (ZR:i.grownBy m v.ownBlock):DRow m g q (R++[r]):=by
 have s:∀k,OfTy i k 151∨OfTy i k 91->T k≠v.ownBlock:=λk f e=>by
  have t:=bu h1.i k e.symm;rcases f with f|f;{exact t.ne (by decide) f};{exact t.ne (by decide) f}
 have u:∀k,OfTy i k 151∨OfTy i k 91->k<i.heap.size:=λk f=>by rcases f with ⟨c,z,f⟩|⟨c,z,f⟩<;>exact(eT.1 f).1
 have keep:∀k,OfTy i k 151∨OfTy i k 91->m.heap[k]?=i.heap[k]?:=λk f=>ZR.block k (u k f) (s k f);refine⟨by simpa using p,λx j=>?_,?_⟩;{rcases p8.1 j with j|j;{exact(h1.sub x j).ab λk f _=>keep k f};{simp at j;subst j;exact(o.ab λk f _=>keep k f).mono l}}
 ·rw[PF];refine⟨h.up,by simp,λa B b n=>?_⟩;simp at n;subst n;have y:=h.sub a B;refine⟨?_,?_⟩
  ·cases f:a.2.1.ownBlock with
   |none=>exact .inl f
   |some k =>refine .inr λe=>?_;have h1:=(y.H.lt k f).2;have h2:=(o.H.lt k (e ▸ f)).1;omega
  ·cases f:a.2.2.ownBlock with
   |none=>exact .inl f
   |some k =>refine .inr λe=>?_;have h1:=(y.V.lt k f).2;have h2:=(o.V.lt k (e ▸ f)).1;omega
theorem Ef{f:Nat->Link}(h:w.ownsRow b 91 4 (Z (T (Q g 0 U)) n cap) n (bq f n)):RowLink w g 0 n f:=by
 refine⟨(dM h).2,λi hi=>?_⟩;have c:∀j,j<4->∀u,(cQ (f i))[j]?=T u->w.cell? (Q g (0+i*4+j) U)=T u:=λj m u l=>by have:=(cP h (j:=i*4+j) (u:=u) (by rw[jR f hi j m];exact l)).1;rwa[show 0+i*4+j=i*4+j by omega]
 exact⟨c 0 (by omega) _ rfl,c 1 (by omega) _ rfl,c 2 (by omega) _ rfl,c 3 (by omega) _ rfl⟩
theorem DSub.ins{f:Nat}{r:DR}(h:DSub w f r):∃a cap,r.2.1=Z a r.1.f cap/\SlIns w a r.1.f r.1.H:=by
 obtain⟨a,cap,e⟩:=cJ h.H;refine⟨a,cap,e,?_⟩;by_cases hz:r.1.f=0;{exact .inl hz}
 ·obtain⟨g,c,b⟩:=cC h.H (by omega);have i:=h.H;rw[b] at i;rw[e] at b;cases b
  exact .inr ⟨g,0,rfl,(nQ i).1⟩
theorem DSub.D{f:Nat}{r:DR}(h:DSub w f r):∃a cap,r.2.2=Z a r.1.b cap/\SlLink w a r.1.b r.1.D:=by
 obtain⟨a,cap,e⟩:=cJ h.V;refine⟨a,cap,e,?_⟩;by_cases hz:r.1.b=0;{exact .inl hz}
 ·obtain⟨g,c,b⟩:=cC h.V (by omega);have i:=h.V;rw[b] at i;rw[e] at b;cases b
  exact .inr ⟨g,0,rfl,Ef i⟩
theorem cZ{R:List DR}(hi:i<R.length):∃r,R[i]?=T r/\r∈R:=⟨R[i],gq hi,gz hi⟩
theorem gn{R:List DR}{r:DR}(h:R[i]?=T r):dF (R.map (·.1)) i=r.1:=by unfold dF;rw[IA,NZ,h];rfl
theorem cR{R:List DR}(h:w.ownsRow b 46 6 (Z (T (Q g 0 U)) R.length cap) R.length (R.flatMap ddV)){r:DR}(c:R[i]?=T r)(j:Nat)(l:j<6)(f:(ddV r)[j]?=T u):w.cell? (Q g (i*6+j) U)=T u/\w.frozen? (Q g (i*6+j) U)=ZA :=
 cP h (j:=i*6+j) (u:=u) (by rw[dt ddV 6 (λ_=>rfl) R i j l r c];exact f)
theorem DRow.ak{a:Option Addr}{R:List DR}(h:DRow w b (Z a R.length c) R):SlDeed w a R.length (dF (R.map (·.1))):=by
 by_cases hz:R.length=0;{exact .inl hz}
 ·obtain⟨g,c',e⟩:=cC h.i (by omega);cases e
  refine .inr ⟨g,0,rfl,(dM h.i).2,λi hi=>?_⟩;obtain⟨r,f,l⟩:=cZ hi;rw[gn f];have c:∀j,j<6->∀u,(ddV r)[j]?=T u->w.cell? (Q g (0+i*6+j) U)=T u:=λj p u s=>by rw[show 0+i*6+j=i*6+j by omega];exact(cR h.i f j p s).1
  obtain⟨n,c4,t,h4⟩:=(h.sub r l).ins;obtain⟨o,c5,m,q⟩:=(h.sub r l).D;exact⟨c 0 (by omega) _ rfl,c 1 (by omega) _ rfl,c 2 (by omega) _ rfl,c 3 (by omega) _ rfl,⟨n,c4,by rw[<-t];exact c 4 (by omega) _ rfl,h4⟩,⟨o,c5,by rw[<-m];exact c 5 (by omega) _ rfl,q⟩⟩
def rAt (R:List DR)(i:Nat):DR:=R.getD i (fA,Z U 0 0,Z U 0 0)
def ra (R:List DR)(i:Nat):Nat:=(rAt R i).1.f
def rl (R:List DR)(i:Nat):Nat:=(rAt R i).1.b
structure CpB (W:M)(h:Nat)(v vo:ZC):Prop where
 size:h+3<=W.heap.size
 a:W.cell? (Q h 0 U)=T v
 r:W.cell? (Q (h+1) 0 U)=T (Z U 0 0)/\W.frozen? (Q (h+1) 0 U)=ZA
 o:W.cell? (Q (h+2) 0 U)=T vo/\W.frozen? (Q (h+2) 0 U)=ZA
theorem uo (W:M)(v:ZC)(t:ZH):(A W (N #[v] t)).cell? (Q W.heap.size 0 U)=T v/\(A W (N #[v] t)).frozen? (Q W.heap.size 0 U)=ZA:=by constructor<;>simp
theorem I7 (w:M)(v:ZC)(b:ZH):CpB (((A w (N #[v] b)).alloc (N #[Z U 0 0] b)).alloc (N #[Z U 0 0] b)) w.heap.size v (Z U 0 0):=by
 obtain⟨c,l⟩:∃c,A w (N #[v] b)=c:=⟨_,rfl⟩
 obtain⟨f,j⟩:∃f,A c (N #[Z U 0 0] b)=f:=⟨_,rfl⟩
 obtain⟨h,i⟩:∃h,A f (N #[Z U 0 0] b)=h:=⟨_,rfl⟩
 rw[l,j,i];have z1:c.heap.size=w.heap.size+1:=by rw[<-l];simp
 have z2:f.heap.size=w.heap.size+2:=by rw[<-j];simp;omega
 have z3:h.heap.size=w.heap.size+3:=by rw[<-i];simp;omega
 have g:Below f.heap.size f h:=by rw[<-i];exact br.alloc ly _
 have o:Below c.heap.size c h:=(by rw[<-j];exact br.alloc ly _:Below c.heap.size c f).trans (g.mono (by omega));have n1:=uo w v b;have m:=uo c (Z U 0 0) b;have n:=uo f (Z U 0 0) b;rw[l] at n1;rw[j,z1] at m;rw[i,z2] at n;exact⟨by omega,(o.cell (p:=(Q w.heap.size 0 U)) (by show w.heap.size<_;omega)).trans n1.1,⟨(g.cell (p:=(Q (w.heap.size+1) 0 U)) (by show w.heap.size+1<_;omega)).trans m.1,(g.frozen (p:=(Q (w.heap.size+1) 0 U)) (by show w.heap.size+1<_;omega)).trans m.2⟩,n⟩
theorem CpB.aa{g:M}{h:Nat}{v j:ZC}(b:CpB W h v j)(hb:Below B W g)(hB:h+3<=B):CpB g h v j:=by have c:∀k o,k<B->g.cell? (Q k o U)=W.cell? (Q k o U):=λk o i=>hb.cell (p:=(Q k o U)) i;have f:∀k o,k<B->g.frozen? (Q k o U)=W.frozen? (Q k o U):=λk o i=>hb.frozen (p:=(Q k o U)) i;exact⟨p7 b.size hb.size,(c _ _ (by omega)).trans b.a,⟨(c _ _ (by omega)).trans b.r.1,(f _ _ (by omega)).trans b.r.2⟩,⟨(c _ _ (by omega)).trans b.o.1,(f _ _ (by omega)).trans b.o.2⟩⟩
theorem CpB.out{h:Nat}{v f:ZC}(b:CpB W h v f)(u:ZC):CpB (W.setCell (Q (h+2) 0 U) u) h v u:=by have c:∀k o,k≠h+2->(W.setCell (Q (h+2) 0 U) u).cell? (Q k o U)=W.cell? (Q k o U):=λk o g=>cell_far _ _ _ _ (by simpa using λe=>g e.symm);exact⟨by simpa using b.size,(c _ _ (by omega)).trans b.a,⟨(c _ _ (by omega)).trans b.r.1,by simpa using b.r.2⟩,⟨CX _ _ _ (by rw[b.o.1];rfl),by simpa using b.o.2⟩⟩
theorem I8 (w:M)(c b f i m l:ZC)(t:ZH):∀j u,[c,b,f,i,m,l][j]?=T u->(A w (N #[c,b,f,i,m,l] t)).cell? (((Q w.heap.size 0 U):Addr).add j)=T u:=by
 intro j u g;have hj:j<6:=by have:=(n8.1 g).1;simpa using this
 have h:=oN w c b f i m l t;rw[addr_add,FM];rcases(show j=0∨j=1∨j=2∨j=3∨j=4∨j=5 by omega) with rfl|rfl|rfl|rfl|rfl|rfl;all_goals simp only[List.getElem?_cons_zero,U0,OJ] at g;subst g
 {exact h.c0.1};{exact h.c1.1};{exact h.c2.1};{exact h.c3.1};{exact h.c4.1};{exact h.c5.1}
