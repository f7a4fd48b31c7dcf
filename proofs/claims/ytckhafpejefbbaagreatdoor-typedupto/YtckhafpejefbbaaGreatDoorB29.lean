import Derived.Test.YtckhafpejefbbaaGreatDoorB28

set_option maxRecDepth 100000
set_option maxHeartbeats 16000000
namespace Go.Proofs.YtckhafpejefbbaaGreatDoor
section
open Tw Tw.Rf Go.Proofs.Tryz
open Go.RowKit
theorem zmy{s:ByteArray}{body:List Tw.Tok}(hL:Lex 0 s.data.toList body){n:Nat}(hX:RfSaid 195 (sumS s.data.toList (A9 s body) n) s body){w:World}{B br bt:Nat}{st:PS}{N:List RN}{tv nv:Value}{i:Nat}{er root:Int}{t:Tw.T}{st':PS}(h:RCtx w B br bt s body st N tv nv i er root)(hs:st.stuck=false)(hN:N.length<=2*i+1000)(h3:atS body i≠3)(h6:atS body i≠6)(h7:atS body i≠7)(hf:cmpS s.data.toList (A9 s body) (n+1) st=some (t,st')):
  Calls prog 120 #[pT br] w (RfTree w B br bt s body st' t N tv nv i root):=by
 obtain⟨hi,rfl⟩:=h.good hs;subst hi;have hm:=h.many;have hile:=h.ile;have hE:Rf.Ends (A9 s body):=⟨⟨0,s.size,s.size⟩,sM,rfl⟩;have n1:(atT s.data.toList body st.next == [108,101,116])=false:=by rw[show([108,101,116]:List UInt8)=De 3 by decide];simpa using λe=>h3 ((Ct hL st.next (c:=3) dZ).1 e)
 have n2:(atT s.data.toList body st.next == [102,117,110])=false:=by rw[show([102,117,110]:List UInt8)=De 6 by decide];simpa using λe=>h6 ((Ct hL st.next (c:=6) dZ).1 e)
 have n3:(atT s.data.toList body st.next == [105,102])=false:=by rw[show([105,102]:List UInt8)=De 7 by decide];simpa using λe=>h7 ((Ct hL st.next (c:=7) dZ).1 e)
 have HS:=bV hs;have HX:=bV h;have HSM:Hid (RfSaid 195 (sumS s.data.toList (A9 s body) n) s body):=@hX;rw[cmpS]at hf;obtain⟨x,hx,hf⟩:=zbE.1 hf;obtain⟨sg,hsg,hf⟩:=zbE.1 hf;have HXX:=bV hx;have HSG:=bV hsg;have HF:=bV hf;obtain⟨c0,c1,_,_,_,_,c6⟩:=h.cells;clear h hs hX hx hsg hf h3 h6 h7
 go_in;go_wp2_with fail;have S:=bV (RS.new (uh HX) #[vU 0,vI (-1),vI (-1),vI (-1),vI st.next,vI 0,vI 0,vI 0,.bool false]);obtain⟨w1,hw1⟩:∃w1,w.alloc (.cells #[vU 0,vI (-1),vI (-1),vI (-1),vI st.next,vI 0,vI 0,vI 0,.bool false] 276)=w1:=⟨_,rfl⟩;obtain⟨nb,hnb⟩:∃nb,w.heap.size=nb:=⟨_,rfl⟩;rw[hw1,hnb]at S ⊢;clear hw1 hnb c0 c1 c6;refine(Bl S.o.x).mono ?_;rintro e1 w2 ⟨rfl,hg⟩;have S2:=bV (S.o.grown hg);clear hg S;simp only[ug];go_wp2_with fail;refine(uh HSM S2.o.x (uh HS) oM (uh HXX)).mono ?_;rintro e1 w3 ⟨k3,N3,nv3,i3,er3,rfl,hk,ho,hi3,hx,hc,hg⟩;have S3:=bV (S2.o.next hk ho hx);have C3:=bV hc;have D3:=bV hg;clear hk ho hx hc hg S2 n1 n2 n3;obtain⟨c0,c1,_,_,_,_,c6⟩:=S3.o.x.cells;have ways:x.2.stuck=true\/(x.2.stuck=false/\atS body i3≠23/\atS body i3≠15)\/(x.2.stuck=false/\atS body i3=23)\/(x.2.stuck=false/\atS body i3=15):=by
  cases x.2.stuck
  ·by_cases e:atS body i3=23
   ·exact .inr (.inr (.inl ⟨rfl,e⟩))
   ·by_cases e2:atS body i3=15
    ·exact .inr (.inr (.inr ⟨rfl,e2⟩))
    ·exact .inr (.inl ⟨rfl,e,e2⟩)
  ·exact .inl rfl
 rcases ways with hw|⟨hw,he,he2⟩|⟨hw,he⟩|⟨hw,he⟩
 ·have hsg:=uh HSG;rw[Hn hE hw _ sM]at hsg;cases hsg;have hf:=uh HF;rw[mA rfl]at hf;cases hf;obtain⟨j,_,rfl,_⟩:=S3.o.x.bad hw;have hji:¬(j:Int)<0:=oM;clear hw;go_wp2_with fail;go_ret;exact⟨k3,N3,nv3,i3,_,rfl,S3.o.k,S3.o.o,hi3,S3.o.x,C3.o,D3.o⟩
 ·obtain⟨q0,rfl⟩:=S3.o.x.good hw;have hsg:=uh HSG;rw[Lu hw (by rw[<-q0];exact S3.o.x.ile) hm dZ dZ,<-q0,jA he,jA he2]at hsg;cases hsg;have hf:=uh HF;rw[mA rfl]at hf;cases hf;have n1:(atT s.data.toList body i3 == [60])=false:=by rw[show([60]:List UInt8)=De 23 by decide];simpa using λe=>he ((Ct hL i3 (c:=23) dZ).1 e)
  have n2:(atT s.data.toList body i3 == [61])=false:=by rw[show([61]:List UInt8)=De 15 by decide];simpa using λe=>he2 ((Ct hL i3 (c:=15) dZ).1 e)
  clear hw q0 he he2;go_wp2_with fail;refine(Bl S3.o.x).mono ?_;rintro e1 w4 ⟨rfl,hg⟩;have S4:=bV (S3.o.grown hg);clear hg S3 c0 c1 c6;simp only[ug];go_wp2_with fail;refine(Bl S4.o.x).mono ?_;rintro e1 w5 ⟨rfl,hg⟩;have S5:=bV (S4.o.grown hg);clear hg S4;simp only[ug];go_wp2_with fail;go_ret;exact⟨k3,N3,nv3,i3,_,rfl,S5.o.k,S5.o.o,hi3,S5.o.x,C3.o,D3.o⟩
 case' inr.inr.inl=>
  have n1:Hid (atT s.data.toList body i3=[60]):=bV ((Ct hL i3 (c:=23) dZ).2 he);obtain⟨q0,rfl⟩:=S3.o.x.good hw;have hsg:=uh HSG;rw[Lu hw (by rw[<-q0];exact S3.o.x.ile) hm dZ dZ,<-q0,mA he]at hsg;cases hsg;have hf:=uh HF;rw[jA (show¬(23:Int)=0 by decide)]at hf;obtain⟨y,hy,hf⟩:=zbE.1 hf;cases hf;have HYY:=bV hy;have M23:=bV trivial;have SGB:=bV (show Hd 23=60 by decide);have hlt2:i3<body.length:=by
   rcases yB i3 body.length with h1|h1
   ·exact h1
   ·unfold atS at he;rw[gD h1]at he;cases he
  have HW:=bV hw;have Q0:=bV q0;clear hw q0 he hy;go_wp2_with fail;refine(Bl S3.o.x).mono ?_;rintro e1 w4 ⟨rfl,hg⟩;have S4:=bV (S3.o.grown hg);clear hg S3 c0 c1 c6;rw[uh n1];simp only[ug];go_wp2_with fail;refine(Bl S4.o.x).mono ?_;rintro e1 w6 ⟨rfl,hg⟩;have S6:=bV (S4.o.grown hg);clear hg S4
 case' inr.inr.inr=>
  have n1:Hid (atT s.data.toList body i3=[61]):=bV ((Ct hL i3 (c:=15) dZ).2 he);obtain⟨q0,rfl⟩:=S3.o.x.good hw;have hsg:=uh HSG;rw[Lu hw (by rw[<-q0];exact S3.o.x.ile) hm dZ dZ,<-q0,jA (by rw[he];decide),mA he]at hsg;cases hsg;have hf:=uh HF;rw[jA (show¬(15:Int)=0 by decide)]at hf;obtain⟨y,hy,hf⟩:=zbE.1 hf;cases hf;have HYY:=bV hy;have SGB:=bV (show Hd 15=61 by decide);have hlt2:i3<body.length:=by
   rcases yB i3 body.length with h1|h1
   ·exact h1
   ·unfold atS at he;rw[gD h1]at he;cases he
  have HW:=bV hw;have Q0:=bV q0;clear hw q0 he hy;go_wp2_with fail;refine(Bl S3.o.x).mono ?_;rintro e1 w4 ⟨rfl,hg⟩;have S4:=bV (S3.o.grown hg);clear hg S3 c0 c1 c6;rw[uh n1];simp only[ug];go_wp2_with fail;refine(Bl S4.o.x).mono ?_;rintro e1 w5 ⟨rfl,hg⟩;have S5:=bV (S4.o.grown hg);clear hg S4;rw[uh n1];simp only[ug];go_wp2_with fail;refine(Bl S5.o.x).mono ?_;rintro e1 w6 ⟨rfl,hg⟩;have S6:=bV (S5.o.grown hg);clear hg S5
 all_goals
  rw[uh n1];simp only[ug];obtain⟨c0,c1,_,_,_,_,c6⟩:=S6.o.x.cells;obtain⟨f1,_,_,_⟩:=S6.o.x.frozen;have S7:=bV (S6.o.setI (uh HW) hlt2);rw[<-uh Q0]at S7;have hb3:=(D3.o (uh HW)).1;go_wp2_with fail;refine(uh HSM S7.o.x (uh HW) oM (uh HYY)).mono ?_;rintro e1 w8 ⟨k8,N8,nv8,i8,er8,rfl,hk,ho,hi8,hx,hc,hg⟩;have S8:=bV (S7.o.next hk ho hx);have C8:=bV hc;have D8:=bV hg;have hl8:=hx.ile;have hN8:N8.length<=5000:=by
   cases h8:y.2.stuck with
   |true=>have:=hc h8;omega
   |false=>have:=(hg h8).1;omega
  have JQ:Hid (Jb N.length st.next y.2 N8.length i8):=by
   refine⟨oM,?_,λe=>by have:=(hg e).1;omega⟩;cases h8:y.2.stuck with
   |true=>have:=hc h8;omega
   |false=>have:=(hg h8).1;omega
  clear hk ho hx hc hg c0 c1 c6 f1 S6 S7;go_wp2_with fail
  first
   |(have _:=M23;refine(Dy S8.o.x hN8 ⟨60,k3,k8,-1,st.next,0,0,0⟩ 0 0).mono ?_)
   |refine(Dy S8.o.x hN8 ⟨61,k3,k8,-1,st.next,0,0,0⟩ 0 0).mono ?_
  rintro e1 we ⟨rfl,hk,nve,ho,hx⟩;have KE:=bV (S8.o.k.trans hk S8.o.o);have OE:=bV (S8.o.o.trans ho S8.o.k.size);have XE:=bV hx;clear hk ho hx;go_wp2_with fail;go_ret
  first
   |refine RfTree.of hL (x:=⟨60,k3,k8,-1,st.next,0,0,0⟩) (uh KE) (uh OE) (uh XE) JQ.o (λe=>?_)
   |refine RfTree.of hL (x:=⟨61,k3,k8,-1,st.next,0,0,0⟩) (uh KE) (uh OE) (uh XE) JQ.o (λe=>?_)
  obtain⟨u1,u2,u3,u4,⟨k0,u5,u6⟩,_⟩:=D3.o (uh HW);obtain⟨v1,v2,v3,v4,_,v6⟩:=D8.o e;have hl:=congrArg List.length u2;have hl2:=congrArg List.length v2;rw[eA,Ak]at hl hl2;refine⟨flat (ixF body) (ixT body) x.1 N.length++flat (ixF body) (ixT body) y.1 (N.length+Rf.T.sz x.1),?_,?_,oM,?_,⟨k0,u5,u6⟩,v6⟩
  ·rw[v2,hl];conv=>lhs;rw[u2]
   rw[wA]
  ·rw[flat,SGB.o,<-u6,Ds hL u5,u3,v3,hl];rfl
  ·rw[eA,Ak,Ak];omega
end
section
open Tw Tw.Rf
open Go.RowKit
variable{F:Nat}{tw:Tw.PS->Option (Tw.T×Tw.PS)}{s:ByteArray}{body:List Tw.Tok}
theorem RfSaid.none(h:∀st,tw st=.none):RfSaid F tw s body:=by
 intro w B b c st N g e i d root t f _ _ _ a;rw[h]at a;cases a
theorem RfSaid.eq{a:PS->Option (Tw.T×PS)}(h:∀st,tw st=a st)(k:RfSaid F a s body):RfSaid F tw s body:=by
 rw[show tw=a from funext h];exact k
structure zmo(s:ByteArray)(body:List Tw.Tok)(n:Nat):Prop where
 expr:RfSaid 120 (A8 s.data.toList (A9 s body) n) s body
 sum:RfSaid 195 (sumS s.data.toList (A9 s body) n) s body
 term:RfSaid 215 (Dp s.data.toList (A9 s body) n) s body
 call:RfSaid 224 (Dj s.data.toList (A9 s body) n) s body
 atom:RfSaid 231 (Cs s.data.toList (A9 s body) n) s body
theorem zln(i:Lex 0 s.data.toList body){n:Nat}(k:∀m,m<=n->zmo s body m):RfSaid 120 (A8 s.data.toList (A9 s body) (n+1)) s body:=by
 intro D B r t l N C y x v root A z h c j a;obtain⟨p,rfl⟩:=h.good c;subst p;have w:=h.ile;rw[A8]at a;obtain⟨tk,q,a⟩:=zbE.1 a;have b:(A9 s body)[l.next]?=some tk:=by simpa[tokS,c]using q
 have o:atS body l.next=tk.sort:=by
  unfold atS;rcases yB l.next body.length with d|d
  ·rw[iA d]at b;rw[b]
  ·rw[fB d,show l.next-body.length=0 by omega]at b;simp at b;rw[gD d,<-b]
 split at a
 ·rename_i e;cases n with
  |zero=>cases a
  |succ n=>exact zmx i (zfn (k n oM).expr) h c j (Jp b (by rw[e];decide)) e a
 ·rename_i e;split at a
  ·rename_i f;cases n with
   |zero=>cases a
   |succ n=>exact zmw i (zfn (k n oM).expr) h c j (Jp b (by rw[f];decide)) f a
  ·rename_i f;split at a
   ·rename_i g;cases n with
    |zero=>cases a
    |succ n=>exact zll i (zfn (k n oM).expr) h c j (Jp b (by rw[g];decide)) g a
   ·rename_i g;cases n with
    |zero=>cases a
    |succ n=>exact zmy i (k n oM).sum h c j (by rw[o];exact e) (by rw[o];exact f) (by rw[o];exact g) a
theorem zmz(a:Lex 0 s.data.toList body)(n:Nat):zmo s body n:=by
 induction n using Nat.strongRecOn with
 |ind n ih=>
  cases n with
  |zero=>exact⟨RfSaid.none λ_=>by rw[A8],RfSaid.none λ_=>by rw[sumS],RfSaid.none λ_=>by rw[Dp],RfSaid.none λ_=>by rw[Dj],RfSaid.none λ_=>by rw[Cs]⟩
  |succ n=>
   refine⟨zln a (λm b=>ih m oM),?_,?_,zli a (λm b=>(ih m oM).atom),zlk a (λm b=>zfn (ih m oM).expr)⟩
   ·refine RfSaid.eq (λc=>by rw[sumS]) ?_;cases n with
    |zero=>exact RfSaid.none λ_=>by rw[Bs]
    |succ n=>
     refine zmu a (λm b=>?_);cases m with
     |zero=>exact RfSaid.none λ_=>by rw[B6]
     |succ m=>exact RfSaid.eq (λc=>by rw[B6]) (ih m oM).term
   ·refine RfSaid.eq (λc=>by rw[Dp]) ?_;cases n with
    |zero=>exact RfSaid.none λ_=>by rw[Bs]
    |succ n=>
     refine zlj a (λm b=>?_);cases m with
     |zero=>exact RfSaid.none λ_=>by rw[B6]
     |succ m=>exact RfSaid.eq (λc=>by rw[B6]) (ih m oM).call
end
end Go.Proofs.YtckhafpejefbbaaGreatDoor
