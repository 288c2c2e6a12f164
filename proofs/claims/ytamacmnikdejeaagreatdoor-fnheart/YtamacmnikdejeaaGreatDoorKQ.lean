import Derived.Test.YtamacmnikdejeaaGreatDoorKK
import Derived.Test.YtamacmnikdejeaaGreatDoorKN
set_option maxRecDepth 100000
set_option maxHeartbeats 4000000
open Go renaming Addr.mk->Q,Value.slice->Y,Value.string->U,Value.int->J,Value.agg->ZG,Obj.cells->N,IntKind.i64->I,World->E,Value->ZB,Ending.returned->ZF,World.heap->z,World.alloc->B
open Option renaming none->Z,some->T
open Bool renaming false->ZA
open Array renaming size->A
namespace Go.Proofs.YtamacmnikdejeaaGreatDoor.Vp
open Tryz RowKit Ca
def FQ (f:E)(hb:Nat)(s0 s1:ZB)(b:E):Out Ent->Prop
 |.inl (made',x)=>∃L g h st,ShBox b hb s0 s1 g h st (dk x).M (dk x).H (Y Z 0 0) ZA/\b.ownsRow (A (z f)) 161 6 g L.length (L.flatMap smV)/\b.ownsRow (A (z f)) 9 1 h made'.length (bA (made'.map (·.e)))/\(∀m∈L,m.done=true->b.ownsRow (A (z f)) 164 3 m.sv m.V.length (eh m.V))/\fq L [] made'
 |.inr (.inl c)=>∃a k,ix f hb b (iR c) (Y a c.length k)
 |.inr (.inr d)=>ix f hb b (iS d) (Y Z 0 0)
section
variable {S:Spc}{a0 a1:Option Addr}{c0 c1:Nat}
theorem vZ (w:E)(C:oU w S a0 a1)(nm:ByteArray)(hn:aB nm=true):Calls Tryz.prog 45 #[ZG #[Y a0 S.n0 c0,Y a1 S.n1 c1],U nm] w λe O=>∃hb,e=ZF (.pointer (T (Q hb 0 Z)))/\FQ w hb (Y a0 S.n0 c0) (Y a1 S.n1 c1) O (aP S 60 [] [] nm)/\Below (A (z w)) w O:=by
 obtain⟨R,hR⟩:∃R,R=aP S 60 [] [] nm:=⟨_,rfl⟩
 have ZI:Hid (∀(W:E) (hb:Nat),SI w hb (Y a0 S.n0 c0) (Y a1 S.n1 c1) W [] [] [] (Y Z 0 0) (Y Z 0 0) (Y Z 0 0)->Calls Tryz.prog 91 #[.pointer (T (Q hb 0 Z)),U nm] W λe O=>lL w hb (Y a0 S.n0 c0) (Y a1 S.n1 c1) [] [] W e O R):=by intro W hb ZN;rw[hR];refine DX C 60 [] [] [] _ _ _ W nm rfl ZN ⟨List.Pairwise.nil,rfl,λx y=>absurd y nj,λx y=>absurd y nj,λx y=>absurd y nj⟩ (fL S []) ?_ (λx y=>absurd y nj) hn;have h1:=uU S;have h2:=C.ok.av;unfold eQ;simp only[KF];omega
 rw[<-hR];have zA:(B w (N #[Y a0 S.n0 c0,Y a1 S.n1 c1] 29)).heap.size=A (z w)+1:=by simp
 obtain⟨W0,ZR⟩:∃W:E,(B w (N #[Y a0 S.n0 c0,Y a1 S.n1 c1] 29)).alloc (N #[Y a0 S.n0 c0,Y a1 S.n1 c1,Y Z 0 0,Y Z 0 0,Y Z 0 0,J I 0,U ⟨#[]⟩,Y Z 0 0,.bool ZA] 89)=W:=⟨_,rfl⟩
 obtain⟨ZM,-,-,-⟩:=nb2 ZR;have t:=ae ZR;clear ZR;have S0:Hid (SI w (A (z w)+1) (Y a0 S.n0 c0) (Y a1 S.n1 c1) W0 [] [] [] (Y Z 0 0) (Y Z 0 0) (Y Z 0 0)):=by
  cases t.out
  refine⟨ZM,D0 _,?_,⟨rfl,.inl ⟨rfl,rfl⟩⟩,⟨rfl,.inl ⟨rfl,rfl⟩⟩,⟨rfl,.inl ⟨rfl,rfl⟩⟩,(λk h=>by cases h),λm V=>absurd V nj⟩;have h2:=gM (B w (N #[Y a0 S.n0 c0,Y a1 S.n1 c1] 29)) (N #[Y a0 S.n0 c0,Y a1 S.n1 c1,Y Z 0 0,Y Z 0 0,Y Z 0 0,J I 0,U ⟨#[]⟩,Y Z 0 0,.bool ZA] 89);rw[zA] at h2;exact h2
 clear hn C hR zA;go_enter func45,ntmps45;go_wp2_with fail;rw[t.out];clear t;obtain⟨hb,ZL⟩:∃hb,hb=A (z w)+1:=⟨_,rfl⟩
 rw[<-ZL] at S0 ⊢;have G:A (z w)<=hb:=by omega
 clear ZL;refine(ZI W0 hb S0).mono ?_;clear ZI;rintro e r l;rcases R with ⟨made',x⟩|c|d
 ·obtain⟨L,md,or,st,rfl,ZN,hrel,-,f⟩:=l;have s:=ae (ZM.trans f.aa);have ld:=ae hrel;obtain⟨ZT,H⟩:∃ZT,ZT=(dk x).M:=⟨_,rfl⟩
  obtain⟨D,ZP⟩:∃D,D=(dk x).H:=⟨_,rfl⟩
  have bt:=ae H;have ex:=ae ZP;rw[<-H,<-ZP];have i:=ae ((BS r).alloc ly (N #[J I ZT,U D,Y Z 0 0] 37));have ZQ:=ae (ZN.aa i ly);clear f hrel ZN H ZP;obtain⟨ZK,-,-,-,-,-,b5,b6,b7,b8,M⟩:=ZQ.l.D;have bf5:=M 5;have bf6:=M 6;have bf7:=M 7;clear M;go_wp2_with fail;go_ret;have ZS:∀{size n:Nat} {P:TypeId} {u:ZB} {X:List ZB},(r.alloc (N #[J I ZT,U D,Y Z 0 0] 37)).ownsRow (A (z w)) P size u n X->89≠P->((((r.alloc (N #[J I ZT,U D,Y Z 0 0] 37)).setCell (Q hb 5 Z) (J I ZT)).setCell (Q hb 6 Z) (U D)).setCell (Q hb 7 Z) (Y Z 0 0)).ownsRow (A (z w)) P size u n X:=λhr ht=>by
   rename_i size n P u X;have ZO:u.ownBlock≠T hb:=λe=>by obtain⟨_,_,cs2,ZJ⟩:=af hr hb e;exact absurd (ai ZQ.l ZJ) ht
   exact aA (aA (aA hr ZO _ _) ZO _ _) ZO _ _
  refine⟨hb,rfl,⟨L,md,or,st,?_,ZS ZQ.ag (by decide),ZS ZQ.ror (by decide),λm V hd=>ZS (ZQ.V m V hd) (by decide),ld⟩,?_⟩;{rw[<-bt.out,<-ex.out];exact aw (aw (aw ZQ.l (j:=5) _) (j:=6) _) (j:=7) _};{exact(((s.trans (i.mono s.size)).setCell (p:=(Q hb 5 Z)) G _).setCell (p:=(Q hb 6 Z)) G _).setCell (p:=(Q hb 7 Z)) G _}
 {obtain⟨a,k,rfl,⟨s0,s1,la,aq,fd,g,b⟩,f⟩:=l;have o:=ae g;have K:=ae b;have s:=ae (ZM.trans f.aa);clear g b f;unfold iE iR;dsimp only;have i:=ae ((BS r).alloc ly (N #[J I 6,U ⟨#[]⟩,Y a c.length k] 37));have q:=ae (ShBox.ab o (i.block _ (ah o)));obtain⟨ZK,-,-,-,-,-,-,-,-,b8,-⟩:=q.D;go_wp2_with fail;go_ret;exact⟨hb,rfl,⟨a,k,_,_,_,_,_,q,own_below K i ly⟩,s.trans (i.mono s.size)⟩};{obtain⟨rfl,⟨s0,s1,la,aq,fd,g,b⟩,f⟩:=l;have o:=ae g;have K:=ae b;have s:=ae (ZM.trans f.aa);clear g b f;unfold iE iS;dsimp only;have i:=ae ((BS r).alloc ly (N #[J I 7,U d,Y Z 0 0] 37));have q:=ae (ShBox.ab o (i.block _ (ah o)));obtain⟨ZK,-,-,-,-,-,-,-,-,b8,-⟩:=q.D;go_wp2_with fail;go_ret;exact⟨hb,rfl,⟨_,_,_,_,_,q,own_below K i ly⟩,s.trans (i.mono s.size)⟩}
end
theorem Ef (w:E)(x:Int)(y:ByteArray)(D:List ByteArray)(a:Option Addr)(n c ZT:Nat)(hn:n=D.length)(hlen:n<=1000)(ZI:w.ownsRow ZT 9 1 (Y a n c) n (bA D)):Calls Tryz.prog 46 #[ZG #[J I x,U y,Y a n c]] w λe w'=>∃rv,e=ZF rv/\nF w w' ⟨x,y,D⟩ rv/\Below (A (z w)) w w':=by
 obtain⟨i1,R,aq,ZK,bt⟩:=kq oV;have HO:=ae ZI;have H:=ae hn;clear ZI hn;obtain⟨b,ZR⟩:∃W:E,(B w (N #[J I x,U y,Y a n c] 37)).alloc (N #[J I 0,U ⟨#[]⟩,Y Z 0 0] 37)=W:=⟨_,rfl⟩
 obtain⟨M,kP,X,-⟩:=nb2 ZR;have G:=ae ZR;clear ZR;go_enter func46,ntmps46;go_upto_region 1 with fail;rw[G.out];clear G;obtain⟨-,p0,p1,p2,-⟩:=bP kP;have ZJ:A (z w)+1<A (z b):=ah X.out;have ZP:Hid (∀V:E,(∀k,k<A (z b)->V.heap[k]?=b.heap[k]?)->V.cell? (Q (A (z w)) 0 Z)=T (J I x)/\V.cell? (Q (A (z w)) 1 Z)=T (U y)/\V.cell? (Q (A (z w)) 2 Z)=T (Y a n c)):=λV O=>by have e:=cq (a:=(Q (A (z w)) 0 Z)) (O (A (z w)) (by omega));have e1:=cq (a:=(Q (A (z w)) 1 Z)) (O (A (z w)) (by omega));have e2:=cq (a:=(Q (A (z w)) 2 Z)) (O (A (z w)) (by omega));exact⟨e.trans p0,e1.trans p1,e2.trans p2⟩
 have ZQ:=ae (ZP b.drew (λk s=>rfl));refine aH (λV=>V.cell? (Q (A (z w)) 0 Z)=T (J I x)/\V.cell? (Q (A (z w)) 1 Z)=T (U y)/\V.cell? (Q (A (z w)) 2 Z)=T (Y a n c)) 9 (by kernel_rfl) ?_;clear p0 p1 p2;iterate 4
  refine aK 0 (v:=?_) rfl rfl (by kernel_rfl) (λ_ _ _ h=>h) rfl ?_ ZQ ?_;rotate_left
  ·(rintro wz ⟨s0,s1,s2⟩;go_simp)
   (try with_reducible rfl)
  (try simp only[Act.put,nzL])
 iterate 2
  refine aK 5 (v:=?_) rfl rfl (by kernel_rfl) (λ_ _ _ h=>h) rfl ?_ ZQ ?_;rotate_left
  ·(rintro wz ⟨s0,s1,s2⟩;go_simp)
   (try with_reducible rfl)
  (try simp only[Act.put,nzL])
 refine aj (i:=4) rfl (by kernel_rfl) λK m=>?_;go_simp;have AB:=ae (((BS b).drew).alloc ly (N #[] 9));refine m _ _ (λ_=>ZP _ (λk s=>AB.block k s)) ?_;clear m K
 (try simp only[Act.put,nzL])
 have f:Hid (Below (A (z b)) b (B b (N #[] 9)).drew):=((BS b).alloc ly _).drew;have o:Hid ((B b (N #[] 9)).drew.ownsRow (A (z b)) 9 1 (Y (T (Q (A (z b)) 0 Z)) 0 0) 0 []):=own_below (nC b 9 1) br.drew ly;have ZO:Hid ((B b (N #[] 9)).drew.ownsRow ZT 9 1 (Y a n c) n (bA D)):=own_below (own_below HO M ly) f ly;refine aj (i:=7) rfl (by kernel_rfl) λK m=>?_;obtain⟨-,⟨P,h0⟩|⟨g,cap,cur,P,-⟩⟩:=id ZO.out;focus
  have e0:D=[]:=RP.1 (H.out.symm.trans h0);cases P
  subst e0;go_simp;have ZS:=f;obtain⟨a1,c1,S,L⟩:∃a1 c1,(Y a1 0 c1:ZB)=Y (T (Q (A (z b)) 0 Z)) 0 0/\Hid ((B b (N #[] 9)).drew.ownsRow (A (z b)) 9 1 (Y a1 0 c1) 0 (bA [])):=⟨_,_,rfl,o⟩
  rw[<-S];clear f o ZO AB S;refine m _ _ (λ_=>ZP _ (λk s=>ZS.block k s)) ?_;generalize (B b (N #[] 9)).drew=ZM at ZS L ⊢
 rotate_left;focus
  cases P
  refine aW (w:=(B b (N #[] 9)).drew) rfl (.tmp 7) (.tmp 9) 35 rfl (A (z b)) 9 i1 (U ⟨#[]⟩) 1 16 LL R aq ZK bt rfl (by decide) (Y (T (Q (A (z b)) 0 Z)) 0 0) 0 [] (by simp[Act.eval]) o.out (Q g 0 Z) n c (bA D) (by simp[Act.eval]) (by rw[bA,MP,<-H.out,Nat.mul_one]) (λq u h=>ZO.cells (g:=g) rfl q u h) (λu hu=>by rw[bA,LM] at hu;obtain⟨t,_,rfl⟩:=hu;rfl) (by unfold maxLen;omega) (by omega) f.size ?_;intro v1 ZM l C ex;have ZS:Hid (Below (A (z b)) b ZM):=f.trans (bg (cM (A (z b)) _) C f.size (λj e=>(o.lt j e).1));rw[IT,LA] at l;have L:=ae l;obtain⟨a1,c1,rfl⟩:=ju l;clear l C ex f o ZO AB;refine m _ _ (λ_=>ZP _ (λk s=>ZS.block k s)) ?_
 all_goals
  clear m K
  (try simp only[Act.put,nzL])
  have ZL:=ae (ZP ZM (λk s=>ZS.block k s));clear ZQ;have ZQ:=ae ZL.out;refine aK 8 (v:=?_) rfl rfl (by kernel_rfl) (λ_ _ _ h=>h) rfl ?_ ZQ ?_;rotate_left
  ·(rintro wz ⟨s0,s1,s2⟩;go_simp)
   (try with_reducible rfl)
  (try simp only[Act.put,nzL])
  obtain⟨rl,r0,r1,r2,ZN⟩:=bP ((ZS.block _ ZJ).trans X);have rf0:=ZN 0;have rf1:=ZN 1;have rf2:=ZN 2;clear ZN;refine aj (i:=9) rfl (by kernel_rfl) λK m=>?_;go_simp;refine m _ _ (λh=>absurd rfl h) ?_;clear m K ZQ
  (try simp only[Act.put])
  refine be (by kernel_rfl) ?_ _;go_wp2_with fail;first|refine bp (v:=ZG #[J I x,U y,Y a1 n c1]) (by simp[results,results46,go_sem,r0,r1,r2]) rfl ⟨_,rfl,⟨a1,c1,by rw[<-H.out],?_⟩,?_⟩|refine bp (v:=ZG #[J I x,U y,Y a1 0 c1]) (by simp[results,results46,go_sem,r0,r1,r2]) rfl ⟨_,rfl,⟨a1,c1,by rw[<-H.out],?_⟩,?_⟩
  ·show World.ownsRow _ _ _ _ _ (List.length _) _
   rw[<-H.out];refine aF (aA (aA (aA L (λe=>?_) _ _) (λe=>?_) _ _) (λe=>?_) _ _) M.size;all_goals
    have:=(af L _ e).1;omega
  ·exact(((M.trans (ZS.mono M.size)).setCell (p:=(Q (A (z w)+1) 0 Z)) (D0 _) _).setCell (p:=(Q (A (z w)+1) 1 Z)) (D0 _) _).setCell (p:=(Q (A (z w)+1) 2 Z)) (D0 _) _
theorem qd (w:E)(r:jm)(a:Option Addr)(c ZT:Nat)(g:w.ownsRow ZT 9 1 (Y a r.R.length c) r.R.length (bA r.R))(b:r.R.length<=1000):Calls Tryz.prog 46 #[ZG #[J I r.M,U r.H,Y a r.R.length c]] w λe i=>∃h,e=ZF h/\nF w i r h/\Below (A (z w)) w i:=by obtain⟨l,j,f⟩:=r;simp only at g b ⊢;exact Ef w l j f a f.length c ZT rfl b g
theorem yU {S:Spc}{lies:List Ent->ByteArray->Out Ent}{t K:Nat}(l:∀b nm c,lies b nm=.inr (.inl c)->c.length<=K):∀k b f g c,bR S lies t k b f g=.inr (.inl c)->c.length<=K:=by
 intro k;induction k with
 |zero=>intro b f g c h;cases h
 |succ k i =>
  intro b f g c h;rw[bR] at h;split at h;{cases h}
  ·split at h;{exact i _ _ _ _ h}
   ·split at h;{exact i _ _ _ _ h}
    ·rename_i c' j;cases h
     exact l _ _ _ j
    {cases h}
theorem wj (S:Spc):∀n b f nm c,aP S n b f nm=.inr (.inl c)->c.length<=b.length+n:=by
 intro n;have g:∀b f nm c (K:Nat) (tgt:Nat->Out Ent),b.length<=K->(∀t c,tgt t=.inr (.inl c)->c.length<=K)->du S tgt b f nm=.inr (.inl c)->c.length<=K:=by
  intro b f nm c K tgt hK i h;unfold du at h;split at h;{cases h}
  ·split at h
   ·cases h
    rw[LP];omega
   {unfold fj dV at h;split at h;{cases h};{split at h;{exact i _ _ h};{cases h}}}
 induction n with
 |zero =>intro b f nm c h;rw[aP] at h;exact g _ _ _ _ _ _ (by omega) (λt c h=>by cases h) h
 |succ n j =>
  intro b f nm c h;rw[aP] at h;refine g _ _ _ _ _ _ (by omega) (λt c h=>?_) h;rcases hr:bR S (aP S n (b++[nm])) t 201 f [] [] with ⟨made1,x⟩|c1|d;{rw[hr] at h;cases h}
  ·rw[hr] at h;cases h
   refine yU (λf nm2 c2 h2=>?_) _ _ _ _ _ hr;have:=j _ _ _ _ h2;rw[eL,AT] at this;omega
  {rw[hr] at h;cases h}
