import Derived.Test.YtckhafpejefbbaaGreatDoorB09
import Derived.Test.YtckhafpejefbbaaGreatDoorB11

set_option maxRecDepth 100000
set_option maxHeartbeats 4000000
namespace Go.Proofs.YtckhafpejefbbaaGreatDoor
abbrev sD:=@List.getElem?_map
section
open Tw Go.Proofs.Tryz
open Go.RowKit
section
variable{B bw lim:Nat}{S S':List TypeId}{w w':World}{sv:Value}{shown:List UInt8}
structure TK(B:Nat)(S:List TypeId)(w w':World):Prop where
 low:∀ {k:Nat},k<B->k<w.heap.size->w'.heap[k]?=w.heap[k]?
 os:w'.os=w.os
 tape:w'.tape=w.tape
 output:w'.output=w.output
 size:w.heap.size<=w'.heap.size
 cells:∀ {k:Nat} {c:Array Value} {t:TypeId} {m:Nat×Nat},w.heap[k]?=some (.cells c t m)->S.contains t=false->w'.heap[k]?=some (.cells c t m)
 other:∀ {k:Nat} {o:Obj},w.heap[k]?=some o->(∀c t m,o ≠ .cells c t m)->w'.heap[k]?=some o
theorem TK.refl(B:Nat)(S:List TypeId)(w:World):TK B S w w:=⟨λ_ _=>rfl,rfl,rfl,rfl,znL _,λh _=>h,λh _=>h⟩
theorem TK.trans{a b c:World}(h:TK B S a b)(k:TK B S b c):TK B S a c:=
 ⟨λx y=>(k.low x (aB y h.size)).trans (h.low x y),k.os.trans h.os,k.tape.trans h.tape,k.output.trans h.output,kB h.size k.size,λx y=>k.cells (h.cells x y) y,λx y=>k.other (h.other x y) y⟩
theorem TK.Ae(B:Nat)(S:List TypeId)(h:zG w w'):TK B S w w':=
 ⟨λ_ y=>h.block _ y sM,h.os,h.tape,h.output,h.size,λx _=>zbG h x,λx _=>zbG h x⟩
theorem TK.base{a:Nat}(h:TK B S w w')(b:a<=B):TK a S w w':={h with low:=λx y=>h.low (aB x b) y}
theorem TK.grown(h:TK w.heap.size S w w'):zG w w':=⟨h.os,h.tape,h.output,h.size,λ_ a _=>h.low a a⟩
theorem TK.mono(h:TK B S w w')(a:∀t,S'.contains t=false->S.contains t=false):TK B S' w w':=
 {h with cells:=λx y=>h.cells x (a _ y)}
theorem TK.sub(h:TK B S w w')(b:S.all (λt=>S'.contains t)=true):TK B S' w w':=
 h.mono λt c=>by
  cases a:S.contains t
  ·rfl
  ·have:=List.all_eq_true.1 b t (by simpa using a);rw[c]at this;cases this
def Qz(l:zU):List Value:=l.map λb=>Value.int .u8 b.toNat
theorem Tryz.zv0:(Tryz.prog.info? 5).map (λi=>(i.zero,i.size,i.bytes))=some (some (vU 0),1,1):=kR
structure Ro(w:World)(bw lim:Nat)(sv:Value)(shown:List UInt8):Prop where
 cell:w.heap[bw]?=some (.cells #[.int .i64 lim,sv] 329 (0,0))
 owns:w.ownsRow bw 5 1 sv shown.length (Qz shown)
 ne:sv.ownBlock≠some bw
 len:shown.length<=5000
 zwu:lim<=1000
abbrev WrS:List TypeId:=[329,5]
theorem Ro.slice(h:Ro w bw lim sv shown):∃a cap,sv=.slice a shown.length cap:=by
 rcases h.owns.2 with⟨b,c⟩|⟨g,cap,d,b,_⟩
 ·exact⟨none,0,by rw[b,c]⟩
 ·exact⟨_,_,b⟩
theorem Ro.grown(h:Ro w bw lim sv shown)(a:zG w w'):Ro w' bw lim sv shown:=by
 refine{h with cell:=zbG a h.cell,owns:=⟨h.owns.1,?_⟩};rcases h.owns.2 with g|⟨d,b,c,i,e,f,j⟩
 ·exact .inl g
 ·exact .inr ⟨d,b,c,i,e,zbG a f,j⟩
theorem Ro.tk(h:Ro w bw lim sv shown)(a:TK B S w w')(e:S.contains 329=false)(f:S.contains 5=false):Ro w' bw lim sv shown:=by
 refine{h with cell:=a.cells h.cell e,owns:=⟨h.owns.1,?_⟩};rcases h.owns.2 with j|⟨d,b,c,k,g,i,l⟩
 ·exact .inl j
 ·exact .inr ⟨d,b,c,k,g,a.cells i f,l⟩
theorem Ue(w:World)(lim:Nat)(a:lim<=1000):
  Calls prog 94 #[vI lim] w λe w'=>e=.returned (pT w.heap.size)/\zG w w'/\Ro w' w.heap.size lim zN []:=by
 go_in;go_wp21;go_ret;exact⟨rfl,zwA _ _ none,Ac w _,⟨by simp[Qz],.inl ⟨rfl,rfl⟩⟩,by simp[Value.ownBlock],sM,a⟩
theorem H9(h:Ro w bw lim sv shown):
  Calls prog 171 #[pT bw] w λe w'=>e=.returned (.bool (decide (lim<shown.length)))/\w'=w.drew:=by
 have⟨d,a,_,_⟩:=A8 h.cell;have⟨c,f,b⟩:=h.slice;rw[b]at a;generalize shown.length=N at *;go_in;go_wp21;go_region;go_wp21;go_ret;exact⟨Ft sM,rfl⟩
theorem Qn (h:Ro w bw lim sv shown) (hB:B<=bw) (s:ByteArray) (hs:s.size<=1000) (h0:0<s.size) :
    Calls prog 172 #[pT bw,.string s] w λe w'=>e=.returned (.tuple #[])/\TK B WrS w w'/\∃sv',Ro w' bw lim sv' (Ei lim shown s.data.toList):=by
  have hl:=h.zwu
  unfold Ei
  by_cases hlt:lim<shown.length
  · rw [mA hlt]
    have hd:decide (lim<shown.length)=true:=by simp[hlt]
    go_in
    go_wp21
    go_call H9 h as e1 w1 ⟨rfl,rfl⟩
    rw[hd]
    go_wp21
    go_end0
    exact⟨rfl,TK.Ae _ _ (Ad (Aa _)),sv,h.grown (Ad (Aa _))⟩
  · rw [jA hlt]
    have hd:decide (lim<shown.length)=false:=by simp;omega
    have⟨i0,hi,hz0,hz1,hz2⟩:=info_parts Tryz.zv0
    go_in
    go_wp21
    go_call H9 h as e1 w1 ⟨rfl,rfl⟩
    rw[hd]
    have H1:=h.grown (Ad (Aa _))
    have⟨c0,c1,f0,f1⟩:=A8 H1.cell
    have⟨a,cap,hsl⟩:=H1.slice
    subst hsl
    have hbw:bw<w.drew.heap.size:=(zgE.1 H1.cell).1
    have ho:=H1.owns
    have hN2:shown.length<=1000:=oM
    generalize hN:shown.length=N at *
    have HN:=bV hN
    have KD:TK B WrS w w.drew:=TK.Ae _ _ (Ad (Aa _))
    generalize w.drew=w1 at *
    go_wp2_with (first
      | (at_builtin; refine Lib.wpList_append_own_string _ rfl _ _ 66 9 rfl bw 5 i0 underlying66 underlying9 hi hz0 hz1 hz2 (.slice a N cap) N (Qz shown) rfl ho s rfl (by unfold maxLen; omega) oM oM ?_; intro v3 w3 hown3 hgrow3 hnil3
         obtain ⟨g,cap3,rfl⟩:∃g cap3,v3 = sL g (N+s.size) cap3:=by
           rcases hown3.2 with ⟨_,hn⟩ | ⟨g,cap3,_,hv,_⟩
           · omega
           · exact ⟨g,cap3,hv⟩
         have hne:(Value.slice a N cap).ownBlock≠some bw:=H1.ne
         have S3:=(hgrow3.block bw oM (fun e=>hne e.symm)).trans H1.cell
         have K3:TK B WrS w w3:=KD.trans ⟨fun {k} x y=>hgrow3.block k y (fun e=>by have:=(ho.lt k e.symm).1; omega),hgrow3.os,hgrow3.tape,hgrow3.output,hgrow3.size,fun {k c t m} x y=>(hgrow3.block k (zgE.1 x).1 (fun e=>by
           rcases ho.2 with ⟨hv,_⟩ | ⟨g',cap',cur',hv,_,hh,_⟩
           · rw [hv] at e; simp [Value.ownBlock] at e
           · rw [hv] at e; simp [Value.ownBlock] at e; subst e; rw [hh] at x; cases x; simp at y)).trans x,fun {k o} x y=>(hgrow3.block k (zgE.1 x).1 (fun e=>by
           rcases ho.2 with ⟨hv,_⟩ | ⟨g',cap',cur',hv,_,hh,_⟩
           · rw [hv] at e; simp [Value.ownBlock] at e
           · rw [hv] at e; simp [Value.ownBlock] at e; subst e; rw [hh] at x; cases x; exact y _ _ _ rfl)).trans x⟩
         have gne:g≠bw:=by
           rcases hown3.2 with ⟨hv,_⟩ | ⟨g',cap',cur',hv,_,hh,_⟩
           · cases hv
           · cases hv
             intro e
             subst e
             rw [S3] at hh
             simp at hh
         have O3:=bV hown3
         have ⟨k0,k1,e0,e1⟩:=A8 S3
         clear hgrow3 hown3 hnil3))
    go_end0
    go_light
    refine⟨rfl,?_,sL g (N+s.size) cap3,?_⟩
    · have K:=K3
      refine⟨λ{k} x y=>by rw[aA _ _ _ _ (by simp;omega)];exact K.low x y,K.os,K.tape,K.output,by have:=K.size;simpa using this,λ{k c t m} x y=>?_,λ{k o} x y=>?_⟩
      · by_cases hk:k=bw
        · subst hk
          have:=K.cells x y
          rw[S3]at this
          cases this
          simp at y
        · rw [aA _ _ _ _ (by simp; omega)]; exact K.cells x y
      · by_cases hk:k=bw
        · subst hk
          have:=K.other x y
          rw[S3]at this
          cases this
          exact absurd rfl (y _ _ _)
        · rw [aA _ _ _ _ (by simp; omega)]; exact K.other x y
    have hl2:(shown++s.data.toList).length=N+s.size:=by rw[eA,uh HN];rfl
    refine⟨by rw[cD _ _ _ _ _ _ S3];rfl,?_,by simpa[Value.ownBlock]using gne,by rw[hl2];omega,hl⟩
    rw[hl2]
    have e2:Qz (shown++s.data.toList)=Qz shown++Lib.strCells s:=by simp[Qz,Lib.strCells]
    rw[e2]
    have:=uh O3
    refine⟨this.1,?_⟩
    rcases this.2 with⟨hv,_⟩|⟨g',cap',cur',hv,hb,hh,rest⟩
    · cases hv
    · cases hv
      exact .inr ⟨g,cap3,cur',rfl,hb,by rw[aA _ _ _ _ (by simpa using gne)];exact hh,rest⟩
theorem Vr(w:World):(convert 66 9 zN).run prog w=.ok (ug []) w:=kR
theorem zfy(h:Ro w bw lim sv shown):
  Calls prog 96 #[pT bw] w λe w'=>e=.returned (ug (Lx lim shown))/\zG w w':=by
 unfold Lx;by_cases c:lim<shown.length
 ·rw[mA c];have b:decide (lim<shown.length)=true:=by simp[c]
  go_in;go_wp21;go_call H9 h as e1 w1 ⟨rfl,rfl⟩;rw[b];go_wp21;go_ret;exact⟨rfl,Ad (Aa _)⟩
 ·rw[jA c];have b:decide (lim<shown.length)=false:=by simp;omega
  go_in;go_wp21;go_call H9 h as e1 w1 ⟨rfl,rfl⟩;rw[b];have a:=h.grown (Ad (Aa _));have⟨q,r,v,x⟩:=A8 a.cell;have⟨l,f,n⟩:=a.slice;subst n;have C:(convert 66 9 (.slice l shown.length f)).run prog w.drew=.ok (ug shown) w.drew:=by
   rcases a.owns.2 with⟨d,k⟩|⟨g,s,t,d,z,m,k,A,_,o⟩
   ·have:shown=[]:=List.length_eq_zero_iff.1 k;subst this;cases d;exact Vr w.drew
   ·cases d;refine run_convert_bytes_back w.drew _ _ 5 (aD g 0) f shown underlying66 underlying5 underlying9 ?_;intro j i;rw[show(Addr.add (aD g 0) j)=((aD g j):Addr)from by simp[Addr.add];omega];rw[mB _ _ _ _ _ _ m]
    have:=congrArg (λp=>p[j]?) o;simp only[Nat.mul_one,List.getElem?_take,i,if_true,Qz,sD,fA i,Option.map_some]at this;simpa using this
  generalize y:shown.length=N at *;go_wp21;go_ret;exact⟨rfl,Ad (Aa _)⟩
end
end
section
open Tw
open Go.RowKit
section
variable{B bs g cap:Nat}{S:List TypeId}{w w':World}{cur:Array Value}{st:Tw.SS}
theorem Bx.zfz(h:Bx w bs g cap cur st)(a:UK bs g w w')(b:S.contains 128=true)(d:S.contains 334=true)(f:B<=bs):TK B S w w':=by
 refine⟨λ{k} x y=>a.block k y oM (by have:=h.low;omega),a.os,a.tape,a.output,a.size,λ{k c t m} x y=>?_,λ{k o} x y=>?_⟩
 ·refine a.at x (λe=>?_) (λe=>?_)
  ·subst e;rw[h.solver]at x;cases x;rw[b]at y;cases y
  ·subst e;rw[h.row]at x;cases x;rw[d]at y;cases y
 ·refine a.at x (λe=>?_) (λe=>?_)
  ·subst e;rw[h.solver]at x;cases x;exact absurd rfl (y _ _ _)
  ·subst e;rw[h.row]at x;cases x;exact absurd rfl (y _ _ _)
theorem Bx.tk(h:Bx w bs g cap cur st)(a:TK B S w w')(b:S.contains 128=false)(c:S.contains 334=false):Bx w' bs g cap cur st:=
 {h with solver:=a.cells h.solver b,row:=a.cells h.row c}
end
theorem Sol.zpe{B:Nat}{S:List TypeId}{w w':World}{bs:Nat}{st:SS}(g:Sol w bs st)(a:SK bs w w')(d:S.contains 128=true)(f:S.contains 334=true)(n:B<=bs):TK B S w w':=by
 have⟨m,j,l,h⟩:=g;refine⟨λ{k} x y=>a.block k y oM (.inl oM),a.os,a.tape,a.output,a.size,λ{k c t o} x y=>?_,λ{k p} x y=>?_⟩
 ·refine a.at x (λe=>?_) (λb i e=>?_)
  ·subst e;rw[h.solver]at x;cases x;rw[d]at y;cases y
  ·cases e;rw[f]at y;cases y
 ·refine a.at x (λe=>?_) (λb i e=>?_)
  ·subst e;rw[h.solver]at x;cases x;exact absurd rfl (y _ _ _)
  ·cases e;exact absurd rfl (y _ _ _)
end
namespace Tw
section
open Go Go.RowKit
structure TW where
 st:SS
 vars:List Nat
 acc:List UInt8
def Hl(k:Nat):zU:=39::UInt8.ofNat (97+k % 26)::(if 0<k / 26 then Lib.itoa (k / 26:Nat)else[])
def idxS(r:Nat):List Nat->Nat->Option Nat
 |[],_=>none
 |x::l,i=>if r=x then some i else idxS r l (i+1)
def Q4(a:List Nat)(r:Nat):Option (Nat×List Nat):=
 match idxS r a 0 with
 |some i=>some (i,a)
 |none=>if a.length<=2000 then some (a.length,a++[r])else none
def Mt(n:Nat)(st:SS)(r:Nat):Option (Int×SS):=(I7 n st r).bind λp=>(p.2.shs[p.1]?).bind λx=>some (x.sort,p.2)
mutual
def Em:Nat->TW->Nat->Option TW
 |0,_,_=>none
 |n+1,t,r=>if 400<t.acc.length then some t else(I7 n t.st r).bind λp=>(p.2.shs[p.1]?).bind λx=>
  if x.sort=0 then(Q4 t.vars p.1).bind λk=>some ⟨p.2,k.2,Ei 400 t.acc (Hl k.1)⟩
  else if x.sort=1 then some ⟨p.2,t.vars,Ei 400 t.acc [105,110,116]⟩
  else if x.sort=2 then some ⟨p.2,t.vars,Ei 400 t.acc [98,111,111,108]⟩
  else if x.sort=3 then(Mt n p.2 x.left).bind λq=>(Q6 n ⟨q.2,t.vars,t.acc⟩ x.left (q.1==3)).bind λu=>
   Em n ⟨u.st,u.vars,Ei 400 u.acc [32,45,62,32]⟩ x.right
  else if x.sort=4 then(Mt n p.2 x.left).bind λq=>(Q6 n ⟨q.2,t.vars,t.acc⟩ x.left (q.1==3||q.1==4)).bind λu=>
   (Mt n u.st x.right).bind λv=>Q6 n ⟨v.2,u.vars,Ei 400 u.acc [32,42,32]⟩ x.right (v.1==3||v.1==4)
  else some ⟨p.2,t.vars,t.acc⟩
def Q6:Nat->TW->Nat->Bool->Option TW
 |0,_,_,_=>none
 |n+1,t,r,b=>if b then(Em n ⟨t.st,t.vars,Ei 400 t.acc [40]⟩ r).bind λu=>some ⟨u.st,u.vars,Ei 400 u.acc [41]⟩else Em n t r
end
def ofS(fuel:Nat)(t:T):Option (Option zU):=
 (Be fuel t .nil ⟨[⟨1,0,0,0⟩,⟨2,0,0,1⟩],false⟩).bind λa=>if a.2.Ar then some none else(Ss fuel a.2).bind λb=>if b.1 then some none else
  (Em fuel ⟨b.2,[],[]⟩ a.1).bind λc=>some (some (Lx 400 c.acc))
end
end Tw
section
open Tw Go.Proofs.Tryz
open Go.RowKit
section
variable{w:World}{base:Nat}{vv:Value}{vars:List Nat}
theorem Se(u:Nat)(h:u<100):(Lib.decDigits u).length<=2:=by
 unfold Lib.decDigits;split
 ·simp
 ·unfold Lib.decDigits;rw[dif_pos oM];simp
def Ew.Fs:Prop:=∀(i:Nat) (_:i<100) (w:World),Calls prog 211 #[.int .i64 i] w λe a=>e=.returned (ug (Lib.decDigits i))/\w=a
theorem zpf(w:World):∀k:Nat,k<26->(convert 21 9 (.int .i32 (97+(k:Int)))).run prog w=.ok (ug [UInt8.ofNat (97+k)]) w
 |0,_=>kR
 |1,_=>kR
 |2,_=>kR
 |3,_=>kR
 |4,_=>kR
 |5,_=>kR
 |6,_=>kR
 |7,_=>kR
 |8,_=>kR
 |9,_=>kR
 |10,_=>kR
 |11,_=>kR
 |12,_=>kR
 |13,_=>kR
 |14,_=>kR
 |15,_=>kR
 |16,_=>kR
 |17,_=>kR
 |18,_=>kR
 |19,_=>kR
 |20,_=>kR
 |21,_=>kR
 |22,_=>kR
 |23,_=>kR
 |24,_=>kR
 |25,_=>kR
 |n+26,h=>absurd h oM
theorem zf0(k:Nat)(w:World):(convert 21 9 (.int .i32 (97+(k:Int) % 26))).run prog w=.ok (ug [UInt8.ofNat (97+k % 26)]) w:=by
 have:=zpf w (k % 26) oM;rw[show((k % 26:Nat):Int)=(k:Int) % 26 from oM]at this;exact this
theorem Xi(g:Ew.Fs)(k:Nat)(n:k<2600)(w:World):Calls prog 179 #[vI k] w λe w'=>e=.returned (ug (Hl k))/\w=w':=by
 have j:=zf0 k;obtain⟨c,a⟩:∃c,[UInt8.ofNat (97+k % 26)]=c:=⟨_,rfl⟩;simp only[a]at j;have h:c.length=1:=by rw[<-a];rfl
 have o:c.toArray.size=1:=by simpa using h
 by_cases l:k<26
 ·have i:¬(0:Int)<(k:Int) / 26:=oM;go_in;go_wp21;go_ret;refine⟨?_,rfl⟩;have e:ug (Hl k)=Value.string ({data:=#[39]} ++ {data:=c.toArray}):=by
   rw[Hl,jA oM,<-a];rfl
  rw[e];rfl
 ·have i:(0:Int)<(k:Int) / 26:=oM;have d:Hid (((k:Int) / 26)=((k / 26:Nat):Int)):=by show _=_;omega
  have b:k / 26<100:=oM;have m:=Se (k / 26) b;go_in;go_wp21;rw[uh d];go_call g (k / 26) b w as e1 w1 ⟨rfl,rfl⟩;go_wp21;go_ret;refine⟨?_,rfl⟩;have e:ug (Hl k)=Value.string (({data:=#[39]} ++ {data:=c.toArray}) ++ {data:=(Lib.decDigits (k / 26)).toArray}):=by
   have f:Lib.itoa ((k / 26:Nat):Int)=Lib.decDigits (k / 26):=by
    unfold Lib.itoa;rw[jA oM];rfl
   rw[Hl,mA oM,f,<-a];show Value.string _=Value.string _;congr 1
  rw[e];rfl
structure Rd(w:World)(base:Nat)(vv:Value)(vars:List Nat):Prop where
 owns:w.ownsRow base 124 1 vv vars.length (vars.map fun(x:Nat)=>Value.int .i64 x)
 few:vars.length<=2001
theorem Rd.slice(h:Rd w base vv vars):∃a cap,vv=.slice a vars.length cap:=by
 rcases h.owns.2 with⟨b,c⟩|⟨g,cap,d,b,_⟩
 ·exact⟨none,0,by rw[b,c]⟩
 ·exact⟨_,_,b⟩
theorem Rd.cell{a:Option Addr}{n cap:Nat}(h:Rd w base (.slice a n cap) vars){i:Nat}(hi:i<vars.length):∃g,a=some (aD g 0)/\n=vars.length/\w.cell? (aD g i)=some (vI vars[i]):=by
 rcases h.owns.2 with⟨_,c⟩|⟨g,f,j,e,k,b,c,m,_,d⟩
 ·omega
 ·cases e;refine⟨g,rfl,rfl,?_⟩;rw[mB _ _ _ _ _ _ b]
  have:=congrArg (λl=>l[i]?) d;simp only[Nat.mul_one,List.getElem?_take,hi,if_true,sD,fA hi,Option.map_some]at this;simpa using this
theorem Xj(r:Nat):∀(l:List Nat) (i:Nat),(∃k,idxS r l i=some k/\i<=k/\k<i+l.length/\l[k-i]?=some r/\∀j,j<k-i->l[j]? ≠ some r)\/(idxS r l i=none/\∀j,j<l.length->l[j]? ≠ some r)
 |[],i=>.inr ⟨rfl,sM⟩
 |x::l,i=>by
  by_cases h:r=x
  ·exact .inl ⟨i,by simp[idxS,h],oM,sM,by simp[h],oM⟩
  ·rcases Xj r l (i+1)with⟨k,a,b,g,d,f⟩|⟨a,b⟩
   ·refine .inl ⟨k,by simp[idxS,h,a],oM,by simp;omega,?_,λj c=>?_⟩
    ·rw[show k-i=(k-(i+1))+1 from oM,List.getElem?_cons_succ];exact d
    ·cases j with
     |zero=>simpa using λe=>h e.symm
     |succ j=>rw[List.getElem?_cons_succ];exact f j oM
   ·refine .inr ⟨by simp[idxS,h,a],λj c=>?_⟩;cases j with
    |zero=>simpa using λe=>h e.symm
    |succ j=>rw[List.getElem?_cons_succ];exact b j (by simpa using c)
theorem zmp(h:Rd w base vv vars)(r:Nat):
  Calls prog 212 #[vv,vI r] w λe w'=>e=.returned (vI (match idxS r vars 0 with|some i=>(i:Int)|none=>-1))/\w=w':=by
 obtain⟨H,L,rfl⟩:=h.slice;have y:=h.few;obtain⟨R,j⟩:∃R,(match idxS r vars 0 with|some i=>(i:Int)|none=>-1)=R:=⟨_,rfl⟩;rw[j];have m:=Xj r vars 0;obtain⟨N,g⟩:∃N,vars.length=N:=⟨_,rfl⟩;rw[g]at y ⊢;go_in;go_wp21;go_loopg[8] N (λG F wr=>wr=w/\∃q:Nat,G+q=N/\F=vI q/\Hid (∀i,i<q->vars[i]? ≠ some r))
 case atStart=>exact⟨rfl,0,oM,rfl,λi z=>oM⟩
 case round=>
  obtain⟨E,q,P,rfl,d⟩:=hrel;subst E;by_cases C:q<N
  ·have c:q<vars.length:=(by rw[g];exact C);obtain⟨M,rfl,Q,O⟩:=h.cell c;have S:(q:Int)<(N:Int):=oM;by_cases l:vars[q]=r
   ·have t:((r:Int)==(vars[q]:Int))=true:=(by simp[l]);have X:Hid (R=q):=by
     have p:vars[q]?=some r:=(by rw[fA c,l]);rcases m with⟨k,a,b,v,f,n⟩|⟨a,b⟩
     ·have B:k=q:=by
       have I:¬k<q:=λo=>uh d k o (by simpa using f);have J:¬q<k:=λo=>n q oM p;omega
      show R=_;rw[<-j,a,B]
     ·exact absurd p (b q c)
    generalize (vars[q]:Nat)=x at *;go_wp21;go_ret;exact⟨Fu (by rw[uh X]),rfl⟩
   ·have t:((r:Int)==(vars[q]:Int))=false:=(by simp;omega);have s:Hid (∀i,i<q+1->vars[i]? ≠ some r):=λi z=>by
     by_cases A:i<q
     ·exact uh d i A
     ·have:i=q:=oM;subst this;rw[fA c];simpa using l
    generalize (vars[q]:Nat)=x at *;go_wp21;go_roundg (gk-1)
    case measure=>omega
    case rel=>exact⟨rfl,q+1,oM,by go_num,s⟩
  ·have D:q=N:=oM;have X:Hid (R = -1):=by
    show R=_;rcases m with⟨k,a,b,v,f,n⟩|⟨a,b⟩
    ·exact absurd (by simpa using f) (uh d k (by rw[D,<-g];omega))
    ·rw[<-j,a]
   go_wp21;go_ret;exact⟨Fu (by rw[uh X]),rfl⟩
end
end
abbrev vB:=@List.map_append
section
open Tw Go.Proofs.Tryz
open Go.RowKit
section
variable{B base bt bw bs:Nat}{S:List TypeId}{w w':World}{vv:Value}{vars:List Nat}
theorem TK.zup{k n:Nat}{T:TypeId}{v:Value}{m:List Value}(f:w.ownsRow base T k v n m)(a:w.grownBy w' v.ownBlock)(o:B<=base)(l:S.contains T=true):TK B S w w':=by
 refine⟨λ{i} x y=>a.block i y (λe=>by have:=(f.lt i e.symm).1;omega),a.os,a.tape,a.output,a.size,λ{i c t p} x y=>(a.block i (zgE.1 x).1 (λe=>?_)).trans x,λ{i q} x y=>(a.block i (zgE.1 x).1 (λe=>?_)).trans x⟩
 ·rcases f.2 with⟨b,_⟩|⟨j,g,h,b,_,d,_⟩
  ·rw[b]at e;simp[Value.ownBlock]at e
  ·rw[b]at e;simp[Value.ownBlock]at e;subst e;rw[d]at x;cases x;rw[l]at y;cases y
 ·rcases f.2 with⟨b,_⟩|⟨j,g,h,b,_,d,_⟩
  ·rw[b]at e;simp[Value.ownBlock]at e
  ·rw[b]at e;simp[Value.ownBlock]at e;subst e;rw[d]at x;cases x;exact y _ _ _ rfl
theorem TK.setAt{b j:Nat}{c:Array Value}{t:TypeId}{m:Nat×Nat}(d:w.heap[b]?=some (.cells c t m))(g:B<=b)(e:S.contains t=true)(v:Value):TK B S w (w.setCell (aD b j) v):=by
 refine⟨λ{k} x y=>aA _ _ _ _ (by simp;omega),rfl,rfl,rfl,sM,λ{k f i h} x y=>?_,λ{k o} x y=>?_⟩
 ·by_cases a:k=b
  ·subst a;rw[d]at x;cases x;rw[e]at y;cases y
  ·rw[aA _ _ _ _ (by simp;omega)];exact x
 ·by_cases a:k=b
  ·subst a;rw[d]at x;cases x;exact absurd rfl (y _ _ _)
  ·rw[aA _ _ _ _ (by simp;omega)];exact x
theorem Tryz.ztw:(Tryz.prog.info? 124).map (λi=>(i.zero,i.size,i.bytes))=some (some (vI 0),1,8):=kR
structure zbt(w:World)(bt bw bs:Nat)(vv:Value)(vars:List Nat):Prop where
 cell:w.heap[bt]?=some (.cells #[.pointer (some ⟨bw,0,none⟩),.pointer (some ⟨bs,0,none⟩),vv] 245 (0,0))
 vars:Rd w bt vv vars
 ne:vv.ownBlock≠some bt
abbrev zv3:List TypeId:=[245,124]
theorem Rd.tk(h:Rd w base vv vars)(f:TK B S w w')(d:S.contains 124=false):Rd w' base vv vars:=by
 refine{h with owns:=⟨h.owns.1,?_⟩};rcases h.owns.2 with i|⟨c,a,b,j,e,g,k⟩
 ·exact .inl i
 ·exact .inr ⟨c,a,b,j,e,f.cells g d,k⟩
theorem zbt.tk(h:zbt w bt bw bs vv vars)(a:TK B S w w')(b:S.contains 245=false)(c:S.contains 124=false):zbt w' bt bw bs vv vars:=
 {h with cell:=a.cells h.cell b,vars:=h.vars.tk a c}
theorem zbt.grown(h:zbt w bt bw bs vv vars)(a:zG w w'):zbt w' bt bw bs vv vars:=h.tk (TK.Ae 0 [] a) rfl rfl
theorem zd4(w:World)(a:Value)(t:TypeId):∀j u,[a][j]?=some u->(w.alloc (.cells #[a] t)).cell? (((aD w.heap.size 0):Addr).add j)=some u:=by
 intro j u h
 match j,h with
 |0,h=>
  simp at h;subst h;show(w.alloc _).cell? (aD w.heap.size 0)=_;rw[mB _ _ _ _ _ _ (Ac w _)];rfl
theorem zf1 {vars':List Nat} (h:zbt w bt bw bs vv vars) (hB:B<=bt) {r i:Nat} (hf:Q4 vars r=some (i,vars')) :
    Calls prog 180 #[pT bt,vI r] w λe w'=>e=.returned (vI i)/\TK B zv3 w w'/\∃vv',zbt w' bt bw bs vv' vars':=by
  obtain⟨a,cap,rfl⟩:=h.vars.slice
  have⟨c0,c1,c2,_,_,f2⟩:=Ag h.cell
  have hbt:bt<w.heap.size:=(zgE.1 h.cell).1
  have HI:=zmp h.vars r
  unfold Q4 at hf
  cases hix:idxS r vars 0 with
  |some k=>
    rw[hix]at hf HI
    simp[Option.some.injEq,Prod.mk.injEq]at hf
    obtain⟨rfl,rfl⟩:=hf
    dsimp only at HI
    go_in
    go_wp21
    go_call HI as e1 w1 ⟨rfl,rfl⟩
    have hk0:(0:Int)<=(k:Int):=oM
    go_wp21
    go_ret
    exact⟨rfl,TK.refl _ _ _,_,h⟩
  |none=>
    rw[hix]at hf HI
    dsimp only at hf HI
    split at hf
    rotate_left
    · cases hf
    rename_i hlen
    simp[Option.some.injEq,Prod.mk.injEq]at hf
    obtain⟨rfl,rfl⟩:=hf
    have⟨i0,hi,hz0,hz1,hz2⟩:=info_parts Tryz.ztw
    have ho:=h.vars.owns
    generalize hN:vars.length=N at *
    go_in
    go_wp21
    go_call HI as e1 w1 ⟨rfl,rfl⟩
    go_wp2_with (first
      | (at_builtin; refine wpList_append_own _ rfl _ _ 243 rfl bt 124 i0 (vI 0) 1 8 underlying243 hi hz0 hz1 hz2 rfl dZ (.slice a N cap) N (vars.map fun (x:Nat)=>vI x) rfl (ho.alloc _) (aD w.heap.size 0) 1 1 [vI r] rfl rfl (zd4 _ _ _) (by intro u hu; simp at hu; rcases hu with rfl; rfl) (by unfold maxLen; omega) oM (by simp; omega) ?_; intro v3 w3 hown3 hgrow3 hnil3
         obtain ⟨g,cap3,rfl⟩:∃g cap3,v3 = sL g (N+1) cap3:=by
           rcases hown3.2 with ⟨_,hn⟩ | ⟨g,cap3,_,hv,_⟩
           · omega
           · exact ⟨g,cap3,hv⟩
         have hne:=h.ne
         have S3:=(hgrow3.block bt (by simp; omega) (fun e=>hne e.symm)).trans (Pq h.cell _)
         have K3:TK B zv3 w w3:=(TK.Ae _ _ (zwA w _ none)).trans (TK.zup (ho.alloc _) hgrow3 hB dZ)
         have gne:g≠bt:=by
           rcases hown3.2 with ⟨hv,_⟩ | ⟨g',cap',cur',hv,_,hh,_⟩
           · cases hv
           · cases hv
             intro e
             subst e
             rw [S3] at hh
             simp at hh
         have O3:=bV hown3
         have ⟨k0,k1,k2,e0,e1,e2⟩:=Ag S3
         clear hgrow3 hown3 hnil3))
    go_ret
    go_light
    refine⟨by go_num,K3.trans (TK.setAt S3 hB dZ _),sL g (N+1) cap3,?_⟩
    have hl:(vars++[r]).length=N+1:=by simp[hN]
    refine⟨by rw[cD _ _ _ _ _ _ S3];rfl,⟨?_,by rw[hl];omega⟩,by simpa[Value.ownBlock]using gne⟩
    rw[hl,vB]
    have:=uh O3
    refine⟨this.1,?_⟩
    rcases this.2 with⟨hv,_⟩|⟨g',cap',cur',hv,hb,hh,rest⟩
    · cases hv
    · cases hv
      exact .inr ⟨g,cap3,cur',rfl,hb,by rw[aA _ _ _ _ (by simpa using gne)];exact hh,rest⟩
end
section
variable{g B bs cap bt bw fuel r:Nat}{w w':World}{cur:Array Value}{st st1:Tw.SS}{vv:Value}{vars:List Nat}{so:Int}
def Qf(w:World)(bt bw bs g cap:Nat)(t:TW):Prop:=∃vv a cur,zbt w bt bw bs vv t.vars/\Ro w bw 400 a t.acc/\Bx w bs g cap cur t.st
abbrev WtS:List TypeId:=[128,334,329,5,245,124]
abbrev zrp:List TypeId:=[128,334]
structure KG(g:Nat)(w w':World):Prop where
 Aq:∀ {k:Nat} {c:Array Value} {m:Nat×Nat},k≠g->w.heap[k]?=some (.cells c 334 m)->w'.heap[k]?=some (.cells c 334 m)
theorem KG.trans{a b c:World}(h:KG g a b)(k:KG g b c):KG g a c:=⟨λn x=>k.Aq n (h.Aq n x)⟩
theorem KG.Ae(h:zG w w'):KG g w w':=⟨λ_ x=>zbG h x⟩
theorem KG.zuc{S:List TypeId}(h:TK B S w w')(a:S.contains 334=false):KG g w w':=⟨λ_ x=>h.cells x a⟩
theorem KG.Wt(a:Bx w bs g cap cur st)(h:UK bs g w w'):KG g w w':=⟨λ{k c m} n x=>h.at x (λe=>by subst e;rw[a.solver]at x;simp at x) n⟩
theorem Xk:∀(n:Nat) {st st':SS} {r p:Nat},I7 n st r=some (p,st')->st'.shs.length=st.shs.length
 |0,_,_,_,_,h=>by simp[I7]at h
 |n+1,st,st',r,p,h=>by
  rw[I7]at h;split at h
  ·cases h
  ·split at h
   ·cases h;rfl
   ·split at h
    ·cases h
    ·have:=Xk n h;simpa[B9]using this
theorem zi1(i:zbt w bt bw bs vv vars)(b:Bx w bs g cap cur st)(y:B<=bs)
    (c:Mt fuel st r=some (so,st1)) :
    Calls prog 182 #[pT bt,vI r] w λe w'=>e=.returned (vI so)/\TK B zrp w w'/\KG g w w'/\∃s,Bx w' bs g cap s st1:=by
  unfold Mt at c;simp only[zbE,zsI,zpI]at c;obtain⟨⟨p,M⟩,j,N,l,rfl,rfl⟩:=c;have n:=l;have k:=Xk _ j;dsimp only at k l;have h:=bV b.drew;have⟨A,C,D,_,_,_⟩:=Ag (show w.drew.heap[bt]?=_ from i.cell);have⟨E,F,_,_⟩:=A8 (uh h).solver;go_in;go_wp21
  go_region_with
    ((go_at_call 177;refine(Ju (uh h) j).mono ?_;rintro v z ⟨rfl,d,t,a⟩;have o:=bV a;have f:TK B zrp w z:=(TK.Ae _ _ (Ad (Aa _))).trans (b.drew.zfz d dZ dZ y);have q:=i.tk f dZ dZ;have m:=(KG.Ae (Ad (Aa _))).trans (KG.Wt b.drew d);have⟨G,v,H,_,_,_⟩:=Ag q.cell;have⟨x,I,_,_⟩:=A8 a.solver;rw[k]at x;have⟨L,O,P,Q,R⟩:=a.sh n;have J:(p:Int)<(st.shs.length:Int):=oM;clear d a))
  all_goals (go_wp21;go_ret;exact⟨rfl,f,m,t,o.o⟩)
theorem zcu(o:zbt w bt bw bs vv vars)(c:Bx w bs g cap cur st)(J:B<=bs)
    (d:Mt fuel st r=some (so,st1)) :
    Calls prog 183 #[pT bt,vI r] w λe w'=>e=.returned (.bool (so==3||so==4))/\TK B zrp w w'/\KG g w w'/\∃F,Bx w' bs g cap F st1:=by
  unfold Mt at d;simp only[zbE,zsI,zpI]at d;obtain⟨⟨p,Z⟩,q,x,t,rfl,rfl⟩:=d;have C:=bV t;have h:=Xk _ q;dsimp only at h t;have l:=bV c.drew;have⟨L,M,N,_,_,_⟩:=Ag (show w.drew.heap[bt]?=_ from o.cell);have⟨O,P,_,_⟩:=A8 (uh l).solver;obtain⟨i,s⟩:∃i,(x.sort==3||x.sort==4)=i:=⟨_,rfl⟩;rw[s];have A:Rk x=i:=s;go_in;go_wp21
  go_region_with
    (first
      |(go_at_call 177;refine(Ju (uh l) q).mono ?_;rintro n v ⟨rfl,f,G,b⟩;have E:=bV b;have j:TK B zrp w v:=(TK.Ae _ _ (Ad (Aa _))).trans (c.drew.zfz f dZ dZ J);have m:=o.tk j dZ dZ;have y:KG g w v:=(KG.Ae (Ad (Aa _))).trans (KG.Wt c.drew f);have⟨Q,n,R,_,_,_⟩:=Ag m.cell;have⟨H,V,_,_⟩:=A8 b.solver;rw[h]at H;have⟨Y,x0,x1,x2,x3⟩:=b.sh (uh C);have X:(p:Int)<(st.shs.length:Int):=oM;clear f b)
      |(go_at_call 178;refine(Vq x _).mono ?_;rintro n w2 ⟨rfl,a⟩;rw[A];have D:=j.trans (TK.Ae _ _ a);have z:=y.trans (KG.Ae a);have k:=(uh E).grown a;have⟨S,T,U,_,_,_⟩:=Ag (m.grown a).cell;have⟨I,W,_,_⟩:=A8 k.solver;rw[h]at I;clear a))
  all_goals (go_wp21;go_ret;exact⟨rfl,D,z,G,k⟩)
end
section
variable{r k B bt bw bs g cap n:Nat}{w:World}{t:Tw.TW}
def zrd(B bt bw bs g cap:Nat)(w:World)(a:TW)(e:Ending)(w':World):Prop:=e=.returned (.tuple #[])/\(TK B WtS w w'/\KG g w w')/\Qf w' bt bw bs g cap a
def ze7(n:Nat):Prop:=∀ {w:World} {B bt bw bs g cap:Nat} {t a:TW} {r:Nat},Qf w bt bw bs g cap t->B<=bt->B<=bw->B<=bs->Em n t r=some a ->
 Calls prog 107 #[.pointer (some ⟨bt,0,none⟩),.int .i64 r] w (zrd B bt bw bs g cap w a)
def zkk(n:Nat):Prop:=∀ {w:World} {B bt bw bs g cap:Nat} {t a:TW} {r:Nat} {b:Bool},Qf w bt bw bs g cap t->B<=bt->B<=bw->B<=bs->Q6 n t r b=some a ->
 Calls prog 181 #[.pointer (some ⟨bt,0,none⟩),.int .i64 r,.bool b] w (zrd B bt bw bs g cap w a)
theorem zi2{b c:List Nat}(h:Q4 b r=some (k,c))(e:b.length<=2001):k<2600:=by
 unfold Q4 at h;rcases Xj r b 0 with⟨i,a,_,d,_⟩|⟨a,_⟩
 ·rw[a]at h;cases h;omega
 ·rw[a]at h;dsimp only at h;split at h
  ·cases h;omega
  ·cases h
theorem My(h:k<2600):(Hl k).length<=4/\0<(Hl k).length:=by
 unfold Hl;split
 ·have:Lib.itoa ((k / 26:Nat):Int)=Lib.decDigits (k / 26):=by
   unfold Lib.itoa;rw[jA oM];rfl
  rw[this]
  have:=Se (k / 26) oM;simp;omega
 ·simp
theorem Ns(h:Qf w bt bw bs g cap t)(c:B<=bw)(s:ByteArray)(j:s.size<=1000)(b:0<s.size):
  Calls prog 172 #[pT bw,.string s] w (zrd B bt bw bs g cap w ⟨t.st,t.vars,Ei 400 t.acc s.data.toList⟩):=by
 have⟨l,m,a,f,i,d⟩:=h;go_call Qn i c s j b as e w' ⟨rfl,hk,sv',hW'⟩;exact⟨rfl,⟨hk.sub dZ,KG.zuc hk dZ⟩,l,sv',a,f.tk hk dZ dZ,hW',d.tk hk dZ dZ⟩
theorem Qf.cells(h:Qf w bt bw bs g cap t):∃a,zH w bt #[pT bw,pT bs,a] 245:=by
 have⟨a,d,c,b,_,_⟩:=h;exact⟨a,b.cell⟩
theorem Qf.grown{w':World}(h:Qf w bt bw bs g cap t)(a:zG w w'):Qf w' bt bw bs g cap t:=by
 have⟨i,f,b,d,e,c⟩:=h;exact⟨i,f,b,d.grown a,e.grown a,c.grown a⟩
theorem zmq(j:ze7 n):zkk (n+1):=by
 intro w B bt bw bs g cap t v r o h f b i a;rw[Q6]at a;have⟨y,c⟩:=h.cells;have⟨p,q,_,_,_,_⟩:=Ag c;cases o with
 |false=>
  simp only[xA,if_false]at a;go_in;go_wp21;go_call j h f b i a as e1 w1 ⟨rfl,hk⟩;go_wp21;go_end0;exact⟨rfl,hk⟩
 |true=>
  simp only[if_true,zbE,zsI]at a;obtain⟨x,s,rfl⟩:=a;go_in;go_wp21;go_call Ns h b ⟨#[40]⟩ (by simp[ByteArray.size]) (by simp[ByteArray.size]) as e1 w1 ⟨rfl,hk,hw⟩;have d:=hk;have l:=hw;go_wp21;go_call j l f b i s as e1 w2 ⟨rfl,hk,hw⟩;have e:=And.intro (d.1.trans hk.1) (d.2.trans hk.2);have m:=hw;have⟨z,c⟩:=hw.cells;have⟨p,q,_,_,_,_⟩:=Ag c;go_wp21;go_call Ns m b ⟨#[41]⟩ (by simp[ByteArray.size]) (by simp[ByteArray.size]) as e1 w3 ⟨rfl,hk,hw⟩;have X:=And.intro (And.intro (e.1.trans hk.1) (e.2.trans hk.2)) hw;go_wp21;go_end0;exact⟨rfl,X⟩
theorem zi3(hIt:Ew.Fs)(hW:ze7 n)(hP:zkk n):ze7 (n+1):=by
  intro w B bt bw bs g cap t t' r h h1 h2 h3 hf;rw[Em]at hf;have HH:=bV h;have⟨vv,sv,cur,hT,hB,hR⟩:=h;have⟨c0,c1,_,_,_,_⟩:=Ag hT.cell;have T0:=bV hT;have B0:=bV hB;have R0:=bV hR;by_cases hfull:400<t.acc.length
  · rw[mA hfull]at hf
    cases hf;have hd:decide (400<t.acc.length)=true:=(by simp[hfull]);have HD:=bV hd;go_in;go_wp21;go_call H9 (uh B0) as e1 w1 ⟨rfl,rfl⟩;rw[uh HD];go_wp21;go_end0;exact⟨rfl,⟨TK.Ae _ _ (Ad (Aa _)),KG.Ae (Ad (Aa _))⟩,(uh HH).grown (Ad (Aa _))⟩
  rw[jA hfull]at hf;simp only[zbE]at hf;have⟨⟨p,st1⟩,hfi,x,hx,hf⟩:=hf;dsimp only at hx hf;have HF:=bV hfi;have HX:=bV hx;have hd:decide (400<t.acc.length)=false:=by simp;omega
  have HD:=bV hd;have hcase:x.sort=0\/x.sort=1\/x.sort=2\/x.sort=3\/x.sort=4\/(x.sort≠0/\x.sort≠1/\x.sort≠2/\x.sort≠3/\x.sort≠4):=oM;rcases hcase with hs|hs|hs|hs|hs|⟨hs0,hs1,hs2,hs3,hs4⟩
  all_goals
    first
      |(simp only[hs,if_true,Int.reduceEq,if_false,zsI]at hf)
      |(simp only[hs0,hs1,hs2,hs3,hs4,if_false,zsI]at hf)
    have HG:=bV hf
    first
      |(
          have s0:=congrArg (λz:Int=>z==0) hs;have s1:=congrArg (λz:Int=>z==1) hs;have s2:=congrArg (λz:Int=>z==2) hs;have s3:=congrArg (λz:Int=>z==3) hs;have s4:=congrArg (λz:Int=>z==4) hs;simp only[Int.reduceBEq]at s0 s1 s2 s3 s4)
      |(
          have s0:(x.sort==0)=false:=(by simp[hs0]);have s1:(x.sort==1)=false:=(by simp[hs1]);have s2:(x.sort==2)=false:=(by simp[hs2]);have s3:(x.sort==3)=false:=(by simp[hs3]);have s4:(x.sort==4)=false:=by simp[hs4])
    first
      |clear hs
      |clear hs0 hs1 hs2 hs3 hs4
    go_in;go_wp21;go_call H9 (uh B0) as e1 w' ⟨rfl,rfl⟩;rw[uh HD];have T1:=(uh T0).grown (Ad (Aa _));have⟨d0,d1,_,_,_,_⟩:=Ag (uh T1).cell;go_wp21;go_call Ju (uh R0).drew (uh HF) as e1 w1 ⟨rfl,hk,cur1,hR1⟩;have R1:=bV hR1;have K1:Hid (TK B zrp w w1):=(TK.Ae _ _ (Ad (Aa _))).trans ((uh R0).drew.zfz hk dZ dZ h3);have G1:Hid (KG g w w1):=(KG.Ae (Ad (Aa _))).trans (KG.Wt (uh R0).drew hk);have W1:Hid (Qf w1 bt bw bs g cap ⟨st1,t.vars,t.acc⟩):=⟨vv,sv,cur1,(uh T0).tk (uh K1) dZ dZ,(uh B0).tk (uh K1) dZ dZ,hR1⟩;have T2:=bV ((uh T0).tk (uh K1) dZ dZ);have⟨e0,e1,_,_,_,_⟩:=Ag (uh T2).cell;have hbt1:bt<w1.heap.size:=(zgE.1 (uh T2).cell).1;have⟨hpl,x0,x1,x2,x3⟩:=hR1.sh (uh HX);have⟨t0,_,_,_⟩:=A8 hR1.solver;have hpi:(p:Int)<(st1.shs.length:Int):=oM;have hgl:g<w1.heap.size:=(zgE.1 (uh R1).row).1;have A2:w1.grownBy (w1.alloc (.cells #[vI x.sort,vI x.left,vI x.right,vI x.same] 334)) none:=zwA _ _ none;have K2:TK B WtS w (w1.alloc (.cells #[vI x.sort,vI x.left,vI x.right,vI x.same] 334))/\KG g w (w1.alloc (.cells #[vI x.sort,vI x.left,vI x.right,vI x.same] 334)):=⟨((uh K1).sub dZ).trans (TK.Ae _ _ A2),G1.o.trans (KG.Ae A2)⟩;have W2:=bV ((uh W1).grown A2);have N2:zH (w1.alloc (.cells #[vI x.sort,vI x.left,vI x.right,vI x.same] 334)) w1.heap.size #[vI x.sort,vI x.left,vI x.right,vI x.same] 334:=Ac _ _;go_wp21
  · have hg':=HG.o
    simp only[zbE,zsI]at hg';obtain⟨⟨k,vars'⟩,hn,rfl⟩:=hg';have HN:=bV hn;have⟨vv2,sv2,cur2,hT2,hB2,hR2⟩:=uh W2;have HK:=bV (zi2 hn hT2.vars.few);have T2:=bV (hT2.grown (Ad (Aa _)));have⟨f0,f1,f2,_,_,_⟩:=Ag (uh T2).cell;have B2:=bV hB2;have R2:=bV hR2;generalize w1.alloc (.cells #[vI x.sort,vI x.left,vI x.right,vI x.same] 334)=wa at *;go_region_held3 (λW=>W.cell? (aD bt 0)=some (pT bw)) (go_keep)
      (first
        |(go_at_call 180;refine(zf1 (uh T2) h1 (uh HN)).mono ?_;rintro e1 w3 ⟨rfl,hk,vv3,hT3⟩;have T3:=bV hT3;have K3:TK B WtS w w3/\KG g w w3:=⟨K2.1.trans ((TK.Ae _ _ (Ad (Aa _))).trans (hk.sub dZ)),K2.2.trans ((KG.Ae (Ad (Aa _))).trans (KG.zuc hk dZ))⟩;have B3:=bV (((uh B2).grown (Ad (Aa _))).tk hk dZ dZ);have R3:=bV ((uh R2).drew.tk hk dZ dZ);have⟨k0,k1,k2,_,_,_⟩:=Ag hT3.cell;clear hk hT3)
        |(go_at_call 179;refine(Xi hIt k (uh HK) _).mono ?_;rintro e1 w4 ⟨rfl,rfl⟩)
        |(go_at_call 172;refine(Ns (t:=⟨st1,vars',t.acc⟩) ⟨vv3,sv2,cur2,uh T3,uh B3,uh R3⟩ h2 ⟨(Hl k).toArray⟩ (by have:=(My (uh HK)).1;simp[ByteArray.size];omega) (by have:=(My (uh HK)).2;simpa[ByteArray.size]using this)).mono ?_;rintro e1 w5 ⟨rfl,hk,hw⟩;have X:=bV (And.intro (And.intro (K3.1.trans hk.1) (K3.2.trans hk.2)) hw);have⟨vv4,hc⟩:=hw.cells;have⟨m0,m1,m2,_,_,_⟩:=Ag hc;clear hk hw hc))
    go_wp21;go_end0;exact⟨rfl,uh X⟩
  · cases HG.o
    go_call Ns (uh W2) h2 ⟨#[105,110,116]⟩ (by simp[ByteArray.size]) (by simp[ByteArray.size]) as e1 w3 ⟨rfl,hk,hw⟩;have X:=bV (And.intro (And.intro (K2.1.trans hk.1) (K2.2.trans hk.2)) hw);go_wp21;go_end0;exact⟨rfl,uh X⟩
  · cases HG.o
    go_call Ns (uh W2) h2 ⟨#[98,111,111,108]⟩ (by simp[ByteArray.size]) (by simp[ByteArray.size]) as e1 w3 ⟨rfl,hk,hw⟩;have X:=bV (And.intro (And.intro (K2.1.trans hk.1) (K2.2.trans hk.2)) hw);go_wp21;go_end0;exact⟨rfl,uh X⟩
  · have hg':=HG.o
    simp only[zbE]at hg';have⟨⟨so,st2⟩,hn,u,hu,hv⟩:=hg';dsimp only at hu hv;have HN:=bV hn;have HU:=bV hu;have HV:=bV hv;have⟨vv2,sv2,cur2,hT2,hB2,hR2⟩:=uh W2;have T2:=bV (hT2.grown (Ad (Aa _)));have B2:=bV (hB2.grown (Ad (Aa _)));have R2:=bV hR2.drew;have hgne:w1.heap.size≠g:=oM;have NE:=bV hgne;generalize w1.alloc (.cells #[vI x.sort,vI x.left,vI x.right,vI x.same] 334)=wa at *;generalize w1.heap.size=wb at *;have KD:TK B WtS w wa.drew/\KG g w wa.drew:=⟨K2.1.trans (TK.Ae _ _ (Ad (Aa _))),K2.2.trans (KG.Ae (Ad (Aa _)))⟩;have ND:=N2;have⟨y0,y1,y2,y3⟩:=Cj ND;go_region_held3 (λW=>W.cell? (aD wb 1)=some (vI x.left)) (go_keep)
      (first
        |(go_at_call 182;refine(zi1 (uh T2) (uh R2) h3 (uh HN)).mono ?_;rintro e1 w3 ⟨rfl,hk,hkg,cur3,hR3⟩;have K3:TK B WtS w w3/\KG g w w3:=⟨KD.1.trans (hk.sub dZ),KD.2.trans hkg⟩;have W3:Qf w3 bt bw bs g cap ⟨st2,t.vars,t.acc⟩:=⟨vv2,sv2,cur3,(uh T2).tk hk dZ dZ,(uh B2).tk hk dZ dZ,hR3⟩;have N3:=bV (hkg.Aq (uh NE) ND);have⟨z0,z1,z2,z3⟩:=Cj (uh N3);clear hk hkg hR3)
        |(go_at_call 181;refine(hP W3 h1 h2 h3 (uh HU)).mono ?_;rintro e1 w4 ⟨rfl,hk,hw⟩;have K4:TK B WtS w w4/\KG g w w4:=⟨K3.1.trans hk.1,K3.2.trans hk.2⟩;have W4:=bV hw;have N4:=bV (hk.2.Aq (uh NE) (uh N3));have⟨v0,v1,v2,v3⟩:=Cj (uh N4);have⟨vv4,hc⟩:=hw.cells;have⟨m0,m1,m2,_,_,_⟩:=Ag hc;clear hk hw hc))
    go_wp21;go_call Ns (uh W4) h2 ⟨#[32,45,62,32]⟩ (by simp[ByteArray.size]) (by simp[ByteArray.size]) as e1 w5 ⟨rfl,hk,hw⟩;have K5:TK B WtS w w5/\KG g w w5:=⟨K4.1.trans hk.1,K4.2.trans hk.2⟩;have W5:=bV hw;have⟨u0,u1,u2,u3⟩:=Cj (hk.2.Aq (uh NE) (uh N4));go_wp21;go_call hW (uh W5) h1 h2 h3 (uh HV) as e1 w6 ⟨rfl,hk,hw⟩;have X:=bV (And.intro (And.intro (K5.1.trans hk.1) (K5.2.trans hk.2)) hw);go_wp21;go_end0;exact⟨rfl,uh X⟩
  · have hg':=HG.o
    simp only[zbE]at hg';have⟨⟨so,st2⟩,hn,u,hu,⟨so2,st3⟩,hn2,hv⟩:=hg';dsimp only at hu hv;have HN:=bV hn;have HU:=bV hu;have HN2:=bV hn2;have HV:=bV hv;have⟨vv2,sv2,cur2,hT2,hB2,hR2⟩:=uh W2;have T2:=bV (hT2.grown (Ad (Aa _)));have B2:=bV (hB2.grown (Ad (Aa _)));have R2:=bV hR2.drew;have hgne:w1.heap.size≠g:=oM;have NE:=bV hgne;generalize w1.alloc (.cells #[vI x.sort,vI x.left,vI x.right,vI x.same] 334)=wa at *;generalize w1.heap.size=wb at *;have KD:TK B WtS w wa.drew/\KG g w wa.drew:=⟨K2.1.trans (TK.Ae _ _ (Ad (Aa _))),K2.2.trans (KG.Ae (Ad (Aa _)))⟩;have ND:=N2;have⟨y0,y1,y2,y3⟩:=Cj ND;go_region_held3 (λW=>W.cell? (aD wb 1)=some (vI x.left)) (go_keep)
      (first
        |(go_at_call 183;refine(zcu (uh T2) (uh R2) h3 (uh HN)).mono ?_;rintro e1 w3 ⟨rfl,hk,hkg,cur3,hR3⟩;have K3:TK B WtS w w3/\KG g w w3:=⟨KD.1.trans (hk.sub dZ),KD.2.trans hkg⟩;have W3:Qf w3 bt bw bs g cap ⟨st2,t.vars,t.acc⟩:=⟨vv2,sv2,cur3,(uh T2).tk hk dZ dZ,(uh B2).tk hk dZ dZ,hR3⟩;have N3:=bV (hkg.Aq (uh NE) ND);have⟨z0,z1,z2,z3⟩:=Cj (uh N3);clear hk hkg hR3)
        |(go_at_call 181;refine(hP W3 h1 h2 h3 (uh HU)).mono ?_;rintro e1 w4 ⟨rfl,hk,hw⟩;have K4:TK B WtS w w4/\KG g w w4:=⟨K3.1.trans hk.1,K3.2.trans hk.2⟩;have W4:=bV hw;have N4:=bV (hk.2.Aq (uh NE) (uh N3));have⟨v0,v1,v2,v3⟩:=Cj (uh N4);have⟨vv4,hc⟩:=hw.cells;have⟨m0,m1,m2,_,_,_⟩:=Ag hc;clear hk hw hc))
    go_wp21;go_call Ns (uh W4) h2 ⟨#[32,42,32]⟩ (by simp[ByteArray.size]) (by simp[ByteArray.size]) as e1 w5 ⟨rfl,hk,hw⟩;have K5:TK B WtS w w5.drew/\KG g w w5.drew:=⟨(K4.1.trans hk.1).trans (TK.Ae _ _ (Ad (Aa _))),(K4.2.trans hk.2).trans (KG.Ae (Ad (Aa _)))⟩;have⟨vv5,sv5,cur5,hT5,hB5,hR5⟩:=hw;have T5:=bV (hT5.grown (Ad (Aa _)));have B5:=bV (hB5.grown (Ad (Aa _)));have R5:=bV hR5.drew;have N5:=hk.2.Aq (uh NE) (uh N4);have⟨u0,u1,u2,u3⟩:=Cj N5;go_wp21;go_region_held3 (λW=>W.cell? (aD wb 2)=some (vI x.right)) (go_keep)
      (first
        |(go_at_call 183;refine(zcu (uh T5) (uh R5) h3 (uh HN2)).mono ?_;rintro e1 w6 ⟨rfl,hk,hkg,cur6,hR6⟩;have K6:TK B WtS w w6/\KG g w w6:=⟨K5.1.trans (hk.sub dZ),K5.2.trans hkg⟩;have W6:Qf w6 bt bw bs g cap ⟨st3,u.vars,Ei 400 u.acc [32,42,32]⟩:=⟨vv5,sv5,cur6,(uh T5).tk hk dZ dZ,(uh B5).tk hk dZ dZ,hR6⟩;have N6:=bV (hkg.Aq (uh NE) N5);have⟨z0,z1,z2,z3⟩:=Cj (uh N6);clear hk hkg hR6)
        |(go_at_call 181;refine(hP W6 h1 h2 h3 (uh HV)).mono ?_;rintro e1 w7 ⟨rfl,hk,hw⟩;have X:=bV (And.intro (And.intro (K6.1.trans hk.1) (K6.2.trans hk.2)) hw);have⟨v0,v1,v2,v3⟩:=Cj (hk.2.Aq (uh NE) (uh N6));clear hk hw))
    go_wp21;go_end0;exact⟨rfl,uh X⟩
  · cases HG.o
    go_end0;exact⟨rfl,K2,uh W2⟩
theorem Tj(a:Ew.Fs):∀n,ze7 n/\zkk n
 |0=>⟨λ_ _ _ _ h=>by simp[Em]at h,λ_ _ _ _ h=>by simp[Q6]at h⟩
 |n+1=>⟨zi3 a (Tj a n).1 (Tj a n).2,zmq (Tj a n).1⟩
theorem zpg(j:Ew.Fs){h:Array Value}{st:SS}(b:Bx w bs g cap h st){u:TW}(l:Em n ⟨st,[],[]⟩ r=some u)(i:B<=bs):
  Calls prog 55 #[pT bs,vI r] w λe w'=>e=.returned (ug (Lx 400 u.acc))/\TK B WtS w w':=by
 have o:bs<w.heap.size:=(zgE.1 b.solver).1;go_in;go_wp21;go_call Ue w 400 oM as a w1 ⟨rfl,hg,hb⟩;have c:=hg;have f:=b.grown hg;have p:=hg.size;go_wp21;go_call ((Tj j n).1 (B:=B) (t:=⟨st,[],[]⟩) ⟨_,_,_,⟨Ac _ _,⟨⟨sM,.inl ⟨rfl,rfl⟩⟩,sM⟩,by simp[Value.ownBlock]⟩,hb.grown (zwA _ _ none),f.grown (zwA _ _ none)⟩ oM oM i l) as a w2 ⟨rfl,hk,vv2,sv2,cur2,hT,hB',hR'⟩;have d:=(TK.Ae _ _ (Aj c _)).trans hk.1;have⟨m,a,_,_,_,_⟩:=Ag hT.cell;go_wp21;go_call zfy hB' as a w3 ⟨rfl,hg⟩;go_wp21;go_ret;exact⟨rfl,d.trans (TK.Ae _ _ hg)⟩
end
def ofV:Option zU->Value
 |none=>.tuple #[ug [],.bool false]
 |some s=>.tuple #[ug s,.bool true]
theorem zph(z:Ew.Fs){w:World}{hi:Nat}{t:Tw.T}{tv:Value}(j:Rep w 0 hi t tv){fuel:Nat}{q:Option zU}(a:ofS fuel t=some q):
  Calls prog 34 #[tv] w λe w'=>e=.returned (ofV q)/\TK w.heap.size WtS w w':=by
 unfold ofS at a;simp only[zbE]at a;have⟨⟨D,A⟩,x,a⟩:=a;dsimp only at a;have k:=x;obtain⟨B,C,rfl⟩:=j.iface;by_cases d:A.Ar=true
 ·rw[mA d]at a;cases a;go_in;go_wp21;go_call Pk w as e1 w1 ⟨rfl,hg,hs⟩;have c:=hs;have g:=j.grown hg (znL _) (znL _);go_wp21;go_call (Mx fuel).1 c g (show Ca w1 hi .nil (.pointer none)from rfl) k as e1 w2 ⟨rfl,hk,hs⟩;have f:TK w.heap.size WtS w w2:=(TK.Ae _ _ hg).trans (c.zpe hk dZ dZ (znL _));have⟨o,m,n,b⟩:=hs;have⟨r,i,_,_⟩:=A8 b.solver;rw[d]at i;go_wp21
  go_ret2;exact⟨rfl,f⟩
 rw[jA d]at a;simp only[Bool.not_eq_true]at d;simp only[zbE]at a;have⟨⟨v,E⟩,p,a⟩:=a;dsimp only at a;cases v with
 |true=>
  simp only[if_true,zsI]at a;subst a;go_in;go_wp21;go_call Pk w as e1 w1 ⟨rfl,hg,hs⟩;have c:=hs;have g:=j.grown hg (znL _) (znL _);go_wp21;go_call (Mx fuel).1 c g (show Ca w1 hi .nil (.pointer none)from rfl) k as e1 w2 ⟨rfl,hk,hs⟩;have f:TK w.heap.size WtS w w2:=(TK.Ae _ _ hg).trans (c.zpe hk dZ dZ (znL _));have⟨o,m,n,b⟩:=hs;have h:=b;have⟨r,i,_,_⟩:=A8 b.solver;rw[d]at i;go_wp21;go_call Yq h p as e1 w3 ⟨rfl,hk,cur3,b⟩;have l:=f.trans (h.zfz hk dZ dZ (znL _));go_wp21
  go_ret2;exact⟨rfl,l⟩
 |false=>
  simp only[xA,if_false,zbE,zsI]at a;obtain⟨F,y,rfl⟩:=a;go_in;go_wp21;go_call Pk w as e1 w1 ⟨rfl,hg,hs⟩;have c:=hs;have g:=j.grown hg (znL _) (znL _);go_wp21;go_call (Mx fuel).1 c g (show Ca w1 hi .nil (.pointer none)from rfl) k as e1 w2 ⟨rfl,hk,hs⟩;have f:TK w.heap.size WtS w w2:=(TK.Ae _ _ hg).trans (c.zpe hk dZ dZ (znL _));have⟨o,m,n,b⟩:=hs;have h:=b;have⟨r,i,_,_⟩:=A8 b.solver;rw[d]at i;go_wp21;go_call Yq h p as e1 w3 ⟨rfl,hk,cur3,b⟩;have l:=f.trans (h.zfz hk dZ dZ (znL _));go_wp21;go_call zpg z b y (znL _) as e1 w4 ⟨rfl,hk⟩;have s:=l.trans hk;go_wp21
  go_ret2;exact⟨rfl,s⟩
end
end Go.Proofs.YtckhafpejefbbaaGreatDoor
