/- Texts of the proof, put together: Gram9, PText, SolveTw, Solve, Solve2, Solve3, Env, Find, TypeAs, Infer, Infer2, Infer3, Infer4, Infer5, Infer6, Infer7, EndlessTw, Endless, Endless2, Endless3, WeightTw. -/
import Derived.Test.YtckhafpejefbbaaGreatDoorB08
import Derived.Deep.RegionHeld3
import Derived.Test.YtckhafpejefbbaaGreatDoorB04

set_option maxRecDepth 100000
set_option maxHeartbeats 4000000
namespace Go.Proofs.YtckhafpejefbbaaGreatDoor
open Go.RowKit
theorem ycb (hPI:Said.ParseInt) {w:World} {bp gt cap:Nat} {cur:Array Value} {s:ByteArray} {ts:List Tw.Tok} {st st':Tw.PS} {tk:Tw.Tok}
    (h:PCtx w bp gt cap cur s ts st) (ht:Tw.tokS ts st=some tk) {r:Tw.Tok} (b16:(tk.sort==16)=false) (hb:Tw.zal tk.sort=true) (hf:Tw.zbe ts tk.sort st=some (r,st')) (b2:(tk.sort==2)=true) (hp1:tk.fr<=tk.to) (hp2:tk.to<=s.size) {v:Int} (hv:Lib.parseIntB 64 (Tw.zaw s.data.toList tk.fr tk.to) = .ok v) :
    Calls Tryz.prog 233 #[.pointer (some ⟨bp,0,none⟩)] w (zgn w bp gt cap cur s ts (.int tk.fr tk.to v) st'):=by
  have HH:Hid (PCtx w bp gt cap cur s ts st):=h
  have HT:Hid (Tw.tokS ts st=some tk):=ht
  have hbp:=h.zeo
  have hgt:=h.zff
  have hsz:=h.size
  have H2:Hid (Tw.zbe ts tk.sort st=some (r,st')):=hf
  have HB:Hid (Tw.zal tk.sort=true):=hb
  clear h ht hf hb
  go_enter Tryz.func233,Tryz.ntmps233
  go_wp2_with fail
  refine (zbo HH.out HT.out).mono ?_
  rintro e w1 ⟨rfl,hg⟩
  have P1:Hid (PCtx w1 bp gt cap cur s ts st):=HH.out.kept hg
  have K1:Hid (Keep bp w w1):=Keep.of_none hg
  have z1:w.heap.size<=w1.heap.size:=hg.size
  clear hg
  go_wp2_with fail
  refine (zb5 _ _).mono ?_
  rintro e w2 ⟨rfl,rfl⟩
  rw [HB.out]
  go_wp2_with fail
  refine (zb4 (P1.out.alloc _) _ H2.out).mono ?_
  rintro e w3 ⟨rfl,hk,h⟩
  have P3:Hid (PCtx w3 bp gt cap cur s ts st'):=h
  have K3:Hid (Keep bp w w3):=(K1.out.alloc _).trans hk
  have z3:w1.heap.size<w3.heap.size:=by have:=hk.size; simp at this; omega
  have L3:=zaf (hk.at (zad w1 _) (by omega))
  obtain ⟨a0,a1,a2,f0,f1,f2⟩:=L3
  obtain ⟨p0,p1,p2,p3,p4,p5⟩:=P3.out.p
  have hbp3:bp<w3.heap.size:=by omega
  clear hk h p1 p2 p3 p4 p5
  have hq1:(tk.fr:Int)<=(tk.to:Int):=by omega
  have hq2:(tk.to:Int)<=(s.size:Int):=by omega
  have hvs:(s.extract tk.fr tk.to).size<=300:=by simp [ByteArray.size_extract]; omega
  have HV:Hid (Lib.parseIntB 64 (s.extract tk.fr tk.to).data.toList = .ok v):=by show _=_; rw [zdh]; exact hv
  clear hv
  go_wp2_with fail
  clear a0 f0 f1 f2
  go_region_held3 (fun W=>W.cell? ⟨w3.heap.size,0,none⟩=some (.int .i64 tk.fr)/\W.cell? ⟨w3.heap.size,1,none⟩=some (.int .i64 tk.to)/\W.cell? ⟨bp,0,none⟩=some (.string s)/\W.cell? ⟨w1.heap.size,1,none⟩=some (.int .i64 tk.fr)/\W.cell? ⟨w1.heap.size,2,none⟩=some (.int .i64 tk.to)) (go_keep)
    ((go_at_call 238; refine (zzx hPI _ hvs _ HV.out _).mono ?_; rintro e w4 ⟨rfl,hg⟩
      have hg4:Hid (((w3.alloc (.cells #[.int .i64 tk.fr,.int .i64 tk.to] 85)).drew).grownBy w4 none):=hg
      have q4:=zau ((hg.block _ (by simp) (by simp)).trans (zad w3 (.cells #[.int .i64 tk.fr,.int .i64 tk.to] 85)))
      obtain ⟨q0,q1,_,_⟩:=q4
      have r0:w4.cell? ⟨bp,0,none⟩=some (.string s):=by
        rw [World.cell?_of_block (w:=(w3.alloc (.cells #[.int .i64 tk.fr,.int .i64 tk.to] 85)).drew) (hg.block bp (by simp; omega) (by simp))]
        go_simp
      have r1:w4.cell? ⟨w1.heap.size,1,none⟩=some (.int .i64 tk.fr):=by
        rw [World.cell?_of_block (w:=(w3.alloc (.cells #[.int .i64 tk.fr,.int .i64 tk.to] 85)).drew) (hg.block w1.heap.size (by simp; omega) (by simp))]
        go_simp
      have r2:w4.cell? ⟨w1.heap.size,2,none⟩=some (.int .i64 tk.to):=by
        rw [World.cell?_of_block (w:=(w3.alloc (.cells #[.int .i64 tk.fr,.int .i64 tk.to] 85)).drew) (hg.block w1.heap.size (by simp; omega) (by simp))]
        go_simp
      clear hg))
  go_wp2_with fail
  go_ret
  go_light
  have z4:=hg4.out.size
  simp at z4
  have G4:w3.grownBy w4 none:=zaa (zac (zwA w3 _ none)) hg4.out
  exact ⟨_,rfl,(K3.out.trans (Keep.of_none G4)).alloc _,(P3.out.kept G4).alloc _,⟨w4.heap.size,by omega,by simp,rfl,zad w4 _⟩⟩
theorem zz7 {n:Nat} (hPI:Said.ParseInt) (hB:zbr 237 Tw.za0 n):zbr 233 Tw.zbv (n+1):=by
 intro w bp gt cap cur s ts st t st' h hf0
 rw [Tw.zbv] at hf0
 obtain ⟨tk,ht,hf1⟩:=zbE.1 hf0
 by_cases h16:tk.sort=16
 ·rw [if_pos h16] at hf1
  exact zs1 hB h ht (by simp [h16]) hf1
 rw [if_neg h16] at hf1
 have b16:(tk.sort==16)=false:=by simp [h16]
 cases hba:Tw.zal tk.sort
 ·rw [hba] at hf1
  simp only [Bool.false_eq_true,if_false] at hf1
  obtain ⟨st1,hst,hf2⟩:=zbE.1 hf1
  simp only [zsI,zpI] at hf2
  obtain ⟨rfl,rfl⟩:=hf2
  exact zz4 h ht b16 hba hst
 rw [hba] at hf1
 simp only [if_true] at hf1
 obtain ⟨⟨r,st1⟩,hr,hf2⟩:=zbE.1 hf1
 obtain ⟨x,hx,hf3⟩:=zbE.1 hf2
 simp only [zsI,zpI] at hf3
 obtain ⟨rfl,rfl⟩:=hf3
 have hl:s.data.toList.length=s.size:=rfl
 unfold Tw.zeq at hx
 by_cases h2:tk.sort=2
 ·rw [if_pos h2] at hx
  split at hx
  rotate_left
  ·cases hx
  rename_i hpc
  obtain ⟨v,hv,hx2⟩:=zbE.1 hx
  simp only [zsI] at hx2
  subst hx2
  unfold Tw.zfs at hv
  split at hv
  rotate_left
  ·cases hv
  rename_i v' hv'
  simp only [zsI] at hv
  subst hv
  exact ycb hPI h ht b16 hba hr (by simp [h2]) hpc.1 (by rw [<-hl]; exact hpc.2) hv'
 rw [if_neg h2] at hx
 have b2:(tk.sort==2)=false:=by simp [h2]
 by_cases h10:tk.sort=10\/tk.sort=11
 ·rw [if_pos h10] at hx
  simp only [zsI] at hx
  subst hx
  rcases h10 with h10 | h10
  ·have b10:(tk.sort==10)=true:=by simp [h10]
   rw [b10]
   exact zz5 h ht b16 hba hr b2 b10
  ·have b10:(tk.sort==10)=false:=by simp [h10]
   rw [b10]
   exact zwo h ht b16 hba hr b2 b10 (by simp [h10])
 rw [if_neg h10] at hx
 have b10:(tk.sort==10)=false:=by simp; exact fun e=>h10 (.inl e)
 have b11:(tk.sort==11)=false:=by simp; exact fun e=>h10 (.inr e)
 by_cases h12:tk.sort=12\/tk.sort=13
 ·rw [if_pos h12] at hx
  simp only [zsI] at hx
  subst hx
  rcases h12 with h12 | h12
  ·have b13:(tk.sort==13)=false:=by simp [h12]
   rw [b13]
   exact yb9 h ht b16 hba hr b2 b10 b11 (by simp [h12]) b13
  ·have b13:(tk.sort==13)=true:=by simp [h12]
   rw [b13]
   exact yca h ht b16 hba hr b2 b10 b11 (by simp [h12]) b13
 rw [if_neg h12] at hx
 split at hx
 rotate_left
 ·cases hx
 rename_i hpc
 simp only [zsI] at hx
 subst hx
 exact zz6 h ht b16 hba hr b2 b10 b11 (by simp; exact fun e=>h12 (.inl e)) (by simp; exact fun e=>h12 (.inr e)) hpc.1 (by rw [<-hl]; exact hpc.2)
structure PAll (n:Nat):Prop where
 expr:zbr 81 Tw.za6 n
 lett:zbr 156 Tw.letS n
 fn:zbr 157 Tw.funS n
 cond:zbr 158 Tw.zco n
 cmp:zbr 159 Tw.cmpS n
 sum:zbr 206 Tw.sumS n
 term:zbr 218 Tw.zci n
 call:zbr 225 Tw.zcc n
 atom:zbr 233 Tw.zbv n
 bracket:zbr 237 Tw.za0 n
theorem zz8 (hPI:Said.ParseInt):∀n,PAll n:=by
 intro n
 induction n using Nat.strongRecOn with
 | _ n ih =>
  cases n with
  | zero =>
   constructor
   all_goals
    intro w bp gt cap cur s ts st t st' h hf
    first
     | (simp [Tw.za6] at hf; done) | (simp [Tw.letS] at hf; done) | (simp [Tw.funS] at hf; done) | (simp [Tw.zco] at hf; done) | (simp [Tw.cmpS] at hf; done)
     | (simp [Tw.sumS] at hf; done) | (simp [Tw.zci] at hf; done) | (simp [Tw.zcc] at hf; done) | (simp [Tw.zbv] at hf; done) | (simp [Tw.za0] at hf; done)
  | succ n =>
   have hn:=ih n (by omega)
   exact
    {expr:=zzy hn.lett hn.fn hn.cond hn.cmp
     lett:=yb6 hn.expr
     fn:=yb5 hn.expr
     cond:=zzz hn.expr
     cmp:=yb7 hn.sum
     sum:=yb8 fun m hm=>(ih m (by omega)).term
     term:=zz2 fun m hm=>(ih m (by omega)).call
     call:=zz3 fun m hm=>(ih m (by omega)).atom
     atom:=zz7 hPI hn.bracket
     bracket:=zs0 hn.expr}
open Go.RowKit
structure TokRow (w:World) (gt cap:Nat) (cur:Array Value) (ts:List Tw.Tok):Prop where
 row:w.heap[gt]? = some (.cells cur 176 (0,0))
 cells:cur.toList.take (ts.length * 3)=zbs ts
 len:ts.length<=cap
 capm:cap<=maxLen
 many:ts.length<=301
theorem TokRow.zs2 {w:World} {base:Nat} {v:Value} {ts:List Tw.Tok} (h:w.ownsRow base 176 3 v ts.length (zbs ts)) (h0:0<ts.length) (h1:ts.length<=301) :
  ∃gt cap cur,v = .slice (some ⟨gt,0,none⟩) ts.length cap/\base<=gt/\TokRow w gt cap cur ts:=by
 rcases h.2 with ⟨_,hn⟩ | ⟨g,cap,cur,hv,hb,hh,hn,hc,_,ht⟩
 ·omega
 ·exact ⟨g,cap,cur,hv,hb,⟨hh,ht,hn,hc,h1⟩⟩
def ydy (w:World) (r:Except Nat Tw.T) (e:Ending) (w':World):Prop:=w.grownBy w' none /\
 match r with
 | .ok t=>∃v,e = .returned (.tuple #[v,.int .i64 0,.bool true])/\Rep w' w.heap.size w'.heap.size t v
 | .error k=>e = .returned (.tuple #[.nilIface,.int .i64 k,.bool false])
theorem zlm {w w':World} {o:Obj} (h:Keep w.heap.size (w.alloc o) w'):w.grownBy w' none :=
 ⟨h.os,h.tape,h.output,by have:=h.size; simp at this; omega,fun k hk _=>by rw [h.block k (by simp; omega) (by simp; omega)]; exact Below.heap_alloc w o k hk⟩
theorem zpz (hPI:Said.ParseInt) {w:World} {gt cap:Nat} {cur:Array Value} {ts:List Tw.Tok} (h:TokRow w gt cap cur ts) (s:ByteArray) (hs:s.size<=300) {fuel:Nat} {r:Except Nat Tw.T} (hf:Tw.zb9 s.data.toList ts fuel=some r) :
  Calls Tryz.prog 47 #[.string s,.slice (some ⟨gt,0,none⟩) ts.length cap] w (ydy w r):=by
 unfold Tw.zb9 at hf
 obtain ⟨⟨t,st1⟩,ht,hf1⟩:=zbE.1 hf
 obtain ⟨⟨tk,st2⟩,htk,hf2⟩:=zbE.1 hf1
 simp only [zsI] at hf2
 clear hf hf1
 simp only at htk
 have hgt:gt<w.heap.size:=(zgE.1 h.row).1
 have PH:Hid (PCtx (w.alloc (.cells #[.string s,.slice (some ⟨gt,0,none⟩) ts.length cap,.int .i64 0,.int .i64 0,.bool false,.int .i64 0] 179)) w.heap.size gt cap cur s ts ⟨0,0,false,0⟩) :=
  {parser:=zad w _,row:=zin h.row _,ne:=by omega,cells:=h.cells,len:=h.len,capm:=h.capm,size:=hs,many:=h.many,nxt:=by simp,dep:=by simp}
 have H1:Hid (Tw.za6 s.data.toList ts fuel ⟨0,0,false,0⟩=some (t,st1)):=ht
 have H2:Hid (Tw.zbe ts 0 st1=some (tk,st2)):=htk
 have PA:PAll fuel:=zz8 hPI fuel
 clear ht htk h
 cases hst:st2.stuck
 ·rw [hst] at hf2
  simp only [Bool.false_eq_true,if_false] at hf2
  subst hf2
  have HS:Hid (st2.stuck=false):=hst
  clear hst
  go_enter Tryz.func47,Tryz.ntmps47
  go_wp2_with fail
  refine (PA.expr PH.out H1.out).mono ?_
  rintro e w1 ⟨v,rfl,hk,h,r⟩
  have P1:Hid (PCtx w1 w.heap.size gt cap cur s ts st1):=h
  have K1:Hid (Keep w.heap.size (w.alloc (.cells #[.string s,.slice (some ⟨gt,0,none⟩) ts.length cap,.int .i64 0,.int .i64 0,.bool false,.int .i64 0] 179)) w1):=hk
  have R1:Hid (Rep w1 (w.heap.size+1) w1.heap.size t v):=by show Rep _ _ _ _ _; simpa using r
  clear hk h r
  go_wp2_with fail
  refine (zb4 P1.out _ H2.out).mono ?_
  rintro e w2 ⟨rfl,hk,h⟩
  have X:Hid (w.grownBy w2 none/\Rep w2 w.heap.size w2.heap.size t v):=⟨zlm (K1.out.trans hk),R1.out.keep hk (by omega) (by omega) hk.size⟩
  have p4:=h.p.2.2.2.2.1
  rw [HS.out] at p4
  clear hk h
  go_wp2_with fail
  go_ret3
  exact ⟨X.out.1,_,rfl,X.out.2⟩
 ·rw [hst] at hf2
  simp only [if_true] at hf2
  subst hf2
  have HS:Hid (st2.stuck=true):=hst
  clear hst
  go_enter Tryz.func47,Tryz.ntmps47
  go_wp2_with fail
  refine (PA.expr PH.out H1.out).mono ?_
  rintro e w1 ⟨v,rfl,hk,h,r⟩
  have P1:Hid (PCtx w1 w.heap.size gt cap cur s ts st1):=h
  have K1:Hid (Keep w.heap.size (w.alloc (.cells #[.string s,.slice (some ⟨gt,0,none⟩) ts.length cap,.int .i64 0,.int .i64 0,.bool false,.int .i64 0] 179)) w1):=hk
  clear hk h r
  go_wp2_with fail
  refine (zb4 P1.out _ H2.out).mono ?_
  rintro e w2 ⟨rfl,hk,h⟩
  have X:Hid (w.grownBy w2 none):=zlm (K1.out.trans hk)
  obtain ⟨_,_,_,_,p4,p5⟩:=h.p
  rw [HS.out] at p4
  clear hk h
  go_wp2_with fail
  go_region
  go_wp2_with fail
  go_ret3
  exact ⟨zac X.out,rfl⟩
theorem Rep.iface {w:World} {lo hi:Nat} {t:Tw.T} {v:Value} (h:Rep w lo hi t v):∃T b,v = .iface T (.pointer (some ⟨b,0,none⟩)):=by
 obtain ⟨b,_,_,hv,_⟩:=h.node
 exact ⟨_,b,hv⟩
theorem zcf {w:World} {b:Nat} {x y z u q:Value} {t:TypeId} (h:w.heap[b]? = some (.cells #[x,y,z,u,q] t (0,0))) :
  w.cell? ⟨b,0,none⟩=some x/\w.cell? ⟨b,1,none⟩=some y/\w.cell? ⟨b,2,none⟩=some z/\w.cell? ⟨b,3,none⟩=some u/\w.cell? ⟨b,4,none⟩=some q:=by
 refine ⟨?_,?_,?_,?_,?_⟩ <;> (rw [cell_of_row w b _ _ _ _ h]; rfl)
theorem za1 {w:World} {b:Nat} {x y z u q r s:Value} {t:TypeId} (h:w.heap[b]? = some (.cells #[x,y,z,u,q,r,s] t (0,0))) :
  w.cell? ⟨b,2,none⟩=some z/\w.cell? ⟨b,3,none⟩=some u/\w.cell? ⟨b,5,none⟩=some r/\w.cell? ⟨b,6,none⟩=some s:=by
 refine ⟨?_,?_,?_,?_⟩ <;> (rw [cell_of_row w b _ _ _ _ h]; rfl)
end Go.Proofs.YtckhafpejefbbaaGreatDoor
namespace Go.Proofs.YtckhafpejefbbaaGreatDoor.Tw
open Go
structure Sh where
 sort:Int
 left:Nat
 right:Nat
 same:Nat
 deriving DecidableEq
structure SS where
 shs:List Sh
 clash:Bool
 deriving DecidableEq
def addS (of:Int) (l r:Nat) (st:SS):Option (Nat×SS) :=
 if st.shs.length<=10000000 then some (st.shs.length,{st with shs:=st.shs ++ [⟨of,l,r,st.shs.length⟩]}) else none
def za9 (st:SS) (r:Nat) (x:Sh) (n:Nat):SS := {st with shs:=st.shs.set r {x with same:=n}}
def zdq:Nat->SS->Nat->Option (Nat×SS)
 | 0,_,_=>none
 | n+1,st,r=>match st.shs[r]? with
  | none=>none
  | some x=>if x.same=r then some (r,st) else match st.shs[x.same]? with
   | none=>none
   | some y=>zdq n (za9 st r x y.same) x.same
def zcp:Nat->SS->Nat->Nat->Option SS
 | 0,_,_,_=>none
 | n+1,st,a,b=>(zdq n st a).bind fun p=>(zdq n p.2 b).bind fun q =>
  match q.2.shs[p.1]?,q.2.shs[q.1]? with
  | some x,some y =>
   if p.1=q.1 then some q.2
   else if x.sort=0 then some (za9 q.2 p.1 x q.1)
   else if y.sort=0 then some (za9 q.2 q.1 y p.1)
   else if x.sort=y.sort then (zcp n (za9 q.2 p.1 x q.1) x.left y.left).bind fun st'=>zcp n st' x.right y.right
   else some {q.2 with clash:=true}
  | _,_=>none
inductive En where
 | nil
 | fix (name:List UInt8) (r:Nat) (o:En)
 | dfn (name:List UInt8) (t:T) (o:En)
def En.look:En->List UInt8->Option (Nat ⊕ (T×En))
 | .nil,_=>none
 | .fix n r o,x=>if n=x then some (.inl r) else o.look x
 | .dfn n t o,x=>if n=x then some (.inr (t,o)) else o.look x
mutual
def zav:Nat->T->En->SS->Option (Nat×SS)
 | 0,_,_,_=>none
 | n+1,.name _ _ x,e,st=>match e.look x with
  | none=>none
  | some (.inl r)=>some (r,st)
  | some (.inr (t,o))=>defS n t o st
 | _+1,.int _ _ _,_,st=>some (0,st)
 | _+1,.truth _ _ _,_,st=>some (1,st)
 | _+1,.side _ _ sec,_,st=>(addS 0 0 0 st).bind fun a=>(addS 0 0 0 a.2).bind fun b=>(addS 4 a.1 b.1 b.2).bind fun p=>addS 3 p.1 (if sec then b.1 else a.1) p.2
 | n+1,.bracket _ _ i,e,st=>zav n i e st
 | n+1,.pair _ _ l r,e,st=>(zav n l e st).bind fun a=>(zav n r e a.2).bind fun b=>addS 4 a.1 b.1 b.2
 | n+1,.call _ _ f a,e,st=>(zav n f e st).bind fun x=>(zav n a e x.2).bind fun y=>(addS 0 0 0 y.2).bind fun to =>
  (addS 3 y.1 to.1 to.2).bind fun fa=>(zcp n fa.2 x.1 fa.1).bind fun st'=>some (to.1,st')
 | n+1,.binary _ _ sg l r,e,st=>(zav n l e st).bind fun x=>(zcp n x.2 x.1 0).bind fun st1=>(zav n r e st1).bind fun y=>(zcp n y.2 y.1 0).bind fun st2 =>
  some (if sg=23\/sg=15 then 1 else 0,st2)
 | n+1,.cond _ _ c t f,e,st=>(zav n c e st).bind fun x=>(zcp n x.2 x.1 1).bind fun st1=>(zav n t e st1).bind fun y=>(zav n f e y.2).bind fun z =>
  (zcp n z.2 y.1 z.1).bind fun st2=>some (y.1,st2)
 | n+1,.fn _ _ bn _ b,e,st=>(addS 0 0 0 st).bind fun from_=>(zav n b (.fix bn from_.1 e) from_.2).bind fun to=>addS 3 from_.1 to.1 to.2
 | n+1,.lett fr to rc bn bat d b,e,st=>(defS n (.lett fr to rc bn bat d b) e st).bind fun x=>zav n b (.dfn bn (.lett fr to rc bn bat d b) e) x.2
def defS:Nat->T->En->SS->Option (Nat×SS)
 | 0,_,_,_=>none
 | n+1,.lett _ _ false _ _ d _,e,st=>zav n d e st
 | n+1,.lett _ _ true bn _ d _,e,st=>(addS 0 0 0 st).bind fun own=>(zav n d (.fix bn own.1 e) own.2).bind fun x=>(zcp n x.2 own.1 x.1).bind fun st'=>some (own.1,st')
 | _+1,_,_,_=>none
end
end Go.Proofs.YtckhafpejefbbaaGreatDoor.Tw
namespace Go.Proofs.YtckhafpejefbbaaGreatDoor
open Go.RowKit
def zot (x:Tw.Sh):List Value:=[.int .i64 x.sort,.int .i64 x.left,.int .i64 x.right,.int .i64 x.same]
def zca:List Tw.Sh->List Value
 | []=>[]
 | x::l=>zot x++zca l
theorem zp0 (a b:List Tw.Sh):zca (a++b)=zca a++zca b:=by
 induction a with
 | nil=>rfl
 | cons t a ih=>simp [zca,ih]
theorem zp1 (a:List Tw.Sh):(zca a).length=a.length * 4:=by
 induction a with
 | nil=>rfl
 | cons t a ih=>simp [zca,zot,ih]; omega
theorem zub (l:List Tw.Sh) (j:Nat) (x:Tw.Sh) (h:l[j]? = some x) :
  (zca l)[j * 4]? = some (.int .i64 x.sort)/\(zca l)[j * 4+1]? = some (.int .i64 x.left)/\(zca l)[j * 4+2]? = some (.int .i64 x.right)/\(zca l)[j * 4+3]? = some (.int .i64 x.same):=by
 induction l generalizing j with
 | nil=>simp at h
 | cons a l ih =>
  cases j with
  | zero=>simp at h; subst h; simp [zca,zot]
  | succ j =>
   have:=ih j (by simpa using h)
   simp only [zca,zot]
   rw [show (j+1) * 4=j * 4+1+1+1+1 from by omega]
   simpa using this
def ydz (o:Option Obj):Prop:=∀cur m,o≠some (.cells cur 334 m)
structure SK (bs:Nat) (w w':World):Prop where
 os:w'.os=w.os
 tape:w'.tape=w.tape
 output:w'.output=w.output
 size:w.heap.size<=w'.heap.size
 block:∀k,k<w.heap.size->k≠bs->(k<bs\/ydz w.heap[k]?)->w'.heap[k]? = w.heap[k]?
theorem SK.refl (bs:Nat) (w:World):SK bs w w:=⟨rfl,rfl,rfl,znL _,fun _ _ _ _=>rfl⟩
theorem SK.trans {bs:Nat} {a b c:World} (h:SK bs a b) (k:SK bs b c):SK bs a c :=
 ⟨k.os.trans h.os,k.tape.trans h.tape,k.output.trans h.output,Nat.le_trans h.size k.size,fun i hi hb hn=>by
  have e:=h.block i hi hb hn
  rw [k.block i (Nat.lt_of_lt_of_le hi h.size) hb (hn.imp id fun q=>by rw [e]; exact q),e]⟩
theorem SK.of_none {bs:Nat} {w w':World} (h:w.grownBy w' none):SK bs w w':=⟨h.os,h.tape,h.output,h.size,fun i hi _ _=>h.block i hi (by simp)⟩
theorem SK.set {bs:Nat} {a w:World} (h:SK bs a w) (j:Nat) (v:Value):SK bs a (w.setCell ⟨bs,j,none⟩ v) :=
 h.trans ⟨rfl,rfl,rfl,by simp,fun k _ hb _=>heap_setCell_other w ⟨bs,j,none⟩ k v (by simpa using hb)⟩
theorem SK.at {bs:Nat} {w w':World} (h:SK bs w w') {b:Nat} {o:Obj} (hb:w.heap[b]? = some o) (h1:b≠bs) (h2:ydz (some o)):w'.heap[b]? = some o:=by
 rw [h.block b (zgE.1 hb).1 h1 (.inr (by rw [hb]; exact h2))]; exact hb
structure UK (bs g:Nat) (w w':World):Prop where
 os:w'.os=w.os
 tape:w'.tape=w.tape
 output:w'.output=w.output
 size:w.heap.size<=w'.heap.size
 block:∀k,k<w.heap.size->k≠bs->k≠g->w'.heap[k]? = w.heap[k]?
theorem UK.refl (bs g:Nat) (w:World):UK bs g w w:=⟨rfl,rfl,rfl,znL _,fun _ _ _ _=>rfl⟩
theorem UK.trans {bs g:Nat} {a b c:World} (h:UK bs g a b) (k:UK bs g b c):UK bs g a c :=
 ⟨k.os.trans h.os,k.tape.trans h.tape,k.output.trans h.output,Nat.le_trans h.size k.size,fun i hi hb hn=>(k.block i (Nat.lt_of_lt_of_le hi h.size) hb hn).trans (h.block i hi hb hn)⟩
theorem UK.of_none {bs g:Nat} {w w':World} (h:w.grownBy w' none):UK bs g w w':=⟨h.os,h.tape,h.output,h.size,fun i hi _ _=>h.block i hi (by simp)⟩
theorem UK.drew {bs g:Nat} {a w:World} (h:UK bs g a w):UK bs g a w.drew:=⟨h.os,h.tape,h.output,h.size,h.block⟩
theorem UK.alloc {bs g:Nat} {a w:World} (h:UK bs g a w) (o:Obj):UK bs g a (w.alloc o):=h.trans (UK.of_none (zwA w o none))
theorem UK.set {bs g:Nat} {a w:World} (h:UK bs g a w) (j:Nat) (v:Value):UK bs g a (w.setCell ⟨bs,j,none⟩ v) :=
 h.trans ⟨rfl,rfl,rfl,by simp,fun k _ hb _=>heap_setCell_other w ⟨bs,j,none⟩ k v (by simpa using hb)⟩
theorem UK.setRow {bs g:Nat} {a w:World} (h:UK bs g a w) (j:Nat) (v:Value):UK bs g a (w.setCell ⟨g,j,none⟩ v) :=
 h.trans ⟨rfl,rfl,rfl,by simp,fun k _ _ hb=>heap_setCell_other w ⟨g,j,none⟩ k v (by simpa using hb)⟩
theorem UK.at {bs g:Nat} {w w':World} (h:UK bs g w w') {b:Nat} {o:Obj} (hb:w.heap[b]? = some o) (h1:b≠bs) (h2:b≠g):w'.heap[b]? = some o:=by
 rw [h.block b (zgE.1 hb).1 h1 h2]; exact hb
theorem UK.sk {bs g:Nat} {w w':World} (h:UK bs g w w') {cur:Array Value} {m:Nat×Nat} (hg:w.heap[g]? = some (.cells cur 334 m)) (hl:bs<=g):SK bs w w' :=
 ⟨h.os,h.tape,h.output,h.size,fun k hk hb hn=>h.block k hk hb (fun e=>by subst e; exact hn.elim (fun q=>by omega) (fun q=>q _ _ hg))⟩
structure SolAt (w:World) (bs:Nat) (v:Value) (st:Tw.SS):Prop where
 solver:w.heap[bs]? = some (.cells #[v,.bool st.clash] 128 (0,0))
 owns:w.ownsRow bs 334 4 v st.shs.length (zca st.shs)
 ne:v.ownBlock≠some bs
 many:st.shs.length<=10000001
theorem Tryz.info334:(Tryz.prog.info? 334).map (fun i=>(i.zero,i.size,i.bytes))=some (some (.agg #[.int .i64 0,.int .i64 0,.int .i64 0,.int .i64 0]),4,32):=by kernel_rfl
theorem zrm (w:World) (a b c d:Value) (t:TypeId):∀j u,[a,b,c,d][j]? = some u->(w.alloc (.cells #[a,b,c,d] t)).cell? ((⟨w.heap.size,0,none⟩:Addr).add j)=some u:=by
 intro j u hj
 match j,hj with
 | 0,hj=>simp at hj; subst hj; simp [Addr.add]
 | 1,hj=>simp at hj; subst hj; simp [Addr.add]
 | 2,hj=>simp at hj; subst hj; simp [Addr.add]
 | 3,hj=>simp at hj; subst hj; simp [Addr.add]
 | j+4,hj=>simp at hj
theorem ycc {bs:Nat} {w w':World} {v:Value} {n:Nat} {xs:List Value} (ho:w.ownsRow bs 334 4 v n xs) (hg:w.grownBy w' v.ownBlock):SK bs w w' :=
 ⟨hg.os,hg.tape,hg.output,hg.size,fun k hk _ hn=>hg.block k hk (fun e=>by
  rcases ho.2 with ⟨rfl,_⟩ | ⟨g,cap,cur,rfl,hl,hh,_⟩
  ·simp [Value.ownBlock] at e
  ·simp [Value.ownBlock] at e; subst e; exact hn.elim (fun q=>by omega) (fun q=>q _ _ hh))⟩
theorem zs3 {w:World} {bs:Nat} {v:Value} {st st':Tw.SS} (h:SolAt w bs v st) (of:Int) (l r:Nat) {n:Nat} (hf:Tw.addS of l r st=some (n,st')) :
    Calls Tryz.prog 97 #[.pointer (some ⟨bs,0,none⟩),.int .i64 of,.int .i64 l,.int .i64 r] w fun e w'=>e = .returned (.int .i64 n)/\SK bs w w'/\∃v',SolAt w' bs v' st':=by
  unfold Tw.addS at hf
  split at hf
  rotate_left
  · cases hf
  rename_i hlen
  simp only [zsI,zpI] at hf
  obtain ⟨rfl,rfl⟩:=hf
  obtain ⟨i0,hi,hz0,hz1,hz2⟩:=info_parts Tryz.info334
  obtain ⟨c0,c1,f0,f1⟩:=zau h.solver
  have hbs:bs<w.heap.size:=(zgE.1 h.solver).1
  have HH:Hid (SolAt w bs v st):=h
  have ho:=h.owns
  obtain ⟨⟨a,cap,hv⟩,hlenv⟩:(∃a cap,v = .slice a st.shs.length cap)/\True:=by
    refine ⟨?_,trivial⟩
    rcases ho.2 with ⟨hv,hn⟩ | ⟨g,cap,cur,hv,_⟩
    · exact ⟨none,0,by rw [hv,hn]⟩
    · exact ⟨_,_,hv⟩
  subst hv
  clear h hlenv
  generalize hN:st.shs.length=N at *
  have HN:Hid (st.shs.length=N):=hN
  clear hN
  go_enter Tryz.func97,Tryz.ntmps97
  go_wp2_with (first
    | (at_builtin; refine wpList_append_own _ rfl _ _ 126 rfl bs 334 i0 (.agg #[.int .i64 0,.int .i64 0,.int .i64 0,.int .i64 0]) 4 32 Tryz.underlying126 hi hz0 hz1 hz2 rfl (by decide) (.slice a N cap) N (zca st.shs) rfl (ho.alloc _) ⟨w.heap.size,0,none⟩ 1 1 [.int .i64 of,.int .i64 l,.int .i64 r,.int .i64 N] rfl rfl (zrm _ _ _ _ _ _) (by intro u hu; simp at hu; rcases hu with rfl | rfl | rfl | rfl <;> rfl) (by unfold maxLen; omega) (by omega) (by simp; omega) ?_; intro v3 w3 hown3 hgrow3 hnil3
       obtain ⟨g,cap3,rfl⟩:∃g cap3,v3 = .slice (some ⟨g,0,none⟩) (N+1) cap3:=by
         rcases hown3.2 with ⟨_,hn⟩ | ⟨g,cap3,_,hv,_⟩
         · omega
         · exact ⟨g,cap3,hv⟩
       have hne:(Value.slice a N cap).ownBlock≠some bs:=HH.out.ne
       have S3:Hid (w3.heap[bs]? = some (.cells #[.slice a N cap,.bool st.clash] 128 (0,0))):=(hgrow3.block bs (by simp; omega) (fun e=>hne e.symm)).trans (zin HH.out.solver _)
       have K3:Hid (SK bs w w3):=(SK.of_none (zwA w _ none)).trans (ycc (ho.alloc _) hgrow3)
       have gne:g≠bs:=by
         rcases hown3.2 with ⟨hv,_⟩ | ⟨g',cap',cur',hv,_,hh,_⟩
         · cases hv
         · cases hv
           intro e
           subst e
           rw [S3.out] at hh
           simp at hh
       have O3:Hid (w3.ownsRow bs 334 4 (.slice (some ⟨g,0,none⟩) (N+1) cap3) (N+1) (zca st.shs ++ [.int .i64 of,.int .i64 l,.int .i64 r,.int .i64 N])):=hown3
       obtain ⟨k0,k1,e0,e1⟩:=zau S3.out
       clear hgrow3 hown3 hnil3))
  go_ret
  go_light
  refine ⟨rfl,K3.out.set 0 _,.slice (some ⟨g,0,none⟩) (N+1) cap3,?_⟩
  have hl:(st.shs ++ [(⟨of,l,r,N⟩:Tw.Sh)]).length=N+1:=by simp [HN.out]
  refine ⟨by rw [heap_setCell_same _ _ _ _ _ _ S3.out]; rfl,?_,by simpa [Value.ownBlock] using gne,by show List.length _<=_; rw [hl]; omega⟩
  show World.ownsRow _ _ _ _ _ (List.length _) (zca _)
  rw [hl,zp0]
  have:=O3.out
  refine ⟨this.1,?_⟩
  rcases this.2 with ⟨hv,_⟩ | ⟨g',cap',cur',hv,hb,hh,rest⟩
  · cases hv
  · cases hv
    exact .inr ⟨g,cap3,cur',rfl,hb,by rw [heap_setCell_other _ _ _ _ (by simpa using gne)]; exact hh,rest⟩
open Go.RowKit
structure RowAt (w:World) (bs g cap:Nat) (cur:Array Value) (st:Tw.SS):Prop where
 solver:w.heap[bs]? = some (.cells #[.slice (some ⟨g,0,none⟩) st.shs.length cap,.bool st.clash] 128 (0,0))
 row:w.heap[g]? = some (.cells cur 334 (0,0))
 ne:g≠bs
 low:bs<=g
 len:st.shs.length<=cap
 capm:cap<=maxLen
 full:cur.size=cap * 4
 cells:cur.toList.take (st.shs.length * 4)=zca st.shs
 many:st.shs.length<=10000001
theorem SolAt.row {w:World} {bs:Nat} {v:Value} {st:Tw.SS} (h:SolAt w bs v st) (h0:0<st.shs.length):∃g cap cur,v = .slice (some ⟨g,0,none⟩) st.shs.length cap/\RowAt w bs g cap cur st:=by
 rcases h.owns.2 with ⟨_,hn⟩ | ⟨g,cap,cur,hv,hlo,hh,hn,hc,hs,ht⟩
 ·omega
 ·subst hv
  exact ⟨g,cap,cur,rfl,⟨h.solver,hh,fun e=>h.ne (by simp [Value.ownBlock,e]),hlo,hn,hc,hs,ht,h.many⟩⟩
theorem RowAt.sol {w:World} {bs g cap:Nat} {cur:Array Value} {st:Tw.SS} (h:RowAt w bs g cap cur st):SolAt w bs (.slice (some ⟨g,0,none⟩) st.shs.length cap) st :=
 ⟨h.solver,⟨zp1 _,
  .inr ⟨g,cap,cur,rfl,h.low,h.row,h.len,h.capm,h.full,h.cells⟩⟩,by simpa [Value.ownBlock] using h.ne,h.many⟩
theorem RowAt.sh {w:World} {bs g cap:Nat} {cur:Array Value} {st:Tw.SS} (h:RowAt w bs g cap cur st) {j:Nat} {x:Tw.Sh} (hj:st.shs[j]? = some x) :
  j<st.shs.length/\w.cell? ⟨g,j * 4,none⟩=some (.int .i64 x.sort)/\w.cell? ⟨g,j * 4+1,none⟩=some (.int .i64 x.left)/\w.cell? ⟨g,j * 4+2,none⟩=some (.int .i64 x.right)/\w.cell? ⟨g,j * 4+3,none⟩=some (.int .i64 x.same):=by
 obtain ⟨a,b,c,d⟩:=zub st.shs j x hj
 have hlt:j<st.shs.length:=(zlE.1 hj).1
 rw [<-h.cells,List.getElem?_take,if_pos (by omega)] at a b c d
 refine ⟨hlt,?_,?_,?_,?_⟩
 ·rw [cell_of_row w g _ cur _ _ h.row]; simpa using a
 ·rw [cell_of_row w g _ cur _ _ h.row]; simpa using b
 ·rw [cell_of_row w g _ cur _ _ h.row]; simpa using c
 ·rw [cell_of_row w g _ cur _ _ h.row]; simpa using d
theorem RowAt.fz {w:World} {bs g cap:Nat} {cur:Array Value} {st:Tw.SS} (h:RowAt w bs g cap cur st) (j:Nat):w.frozen? ⟨g,j,none⟩=false:=frozen_of_row w g j _ _ h.row
theorem zuc (l:List Tw.Sh) (j:Nat) (x:Tw.Sh) (n:Nat) (h:l[j]? = some x) :
  zca (l.set j {x with same:=n})=(zca l).set (j * 4+3) (.int .i64 n):=by
 induction l generalizing j with
 | nil=>simp at h
 | cons a l ih =>
  cases j with
  | zero=>simp at h; subst h; simp [zca,zot]
  | succ j =>
   have:=ih j (by simpa using h)
   simp only [zsS,zca,this,zot]
   rw [show (j+1) * 4+3=j * 4+3+1+1+1+1 from by omega]
   simp
theorem RowAt.set {w:World} {bs g cap:Nat} {cur:Array Value} {st:Tw.SS} (h:RowAt w bs g cap cur st) {j:Nat} {x:Tw.Sh} (hj:st.shs[j]? = some x) (n:Nat) :
  RowAt (w.setCell ⟨g,j * 4+3,none⟩ (.int .i64 n)) bs g cap (cur.setIfInBounds (j * 4+3) (.int .i64 n)) (Tw.za9 st j x n):=by
 have hlt:j<st.shs.length:=(zlE.1 hj).1
 have hl:(Tw.za9 st j x n).shs.length=st.shs.length:=by simp [Tw.za9]
 refine ⟨?_,heap_setCell_same _ _ _ _ _ _ h.row,h.ne,h.low,by rw [hl]; exact h.len,h.capm,by simp [h.full],?_,by rw [hl]; exact h.many⟩
 ·rw [heap_setCell_other _ _ _ _ (by simpa using h.ne.symm),hl]; exact h.solver
 ·rw [hl]
  show _=zca (st.shs.set j {x with same:=n})
  rw [zuc st.shs j x n hj,<-h.cells,Array.toList_setIfInBounds,List.take_set]
theorem RowAt.drew {w:World} {bs g cap:Nat} {cur:Array Value} {st:Tw.SS} (h:RowAt w bs g cap cur st):RowAt w.drew bs g cap cur st := {h with}
theorem RowAt.grown {w w':World} {bs g cap:Nat} {cur:Array Value} {st:Tw.SS} (h:RowAt w bs g cap cur st) (hg:w.grownBy w' none):RowAt w' bs g cap cur st :=
 {h with solver:=by rw [hg.block bs (zgE.1 h.solver).1 (by simp)]; exact h.solver,row:=by rw [hg.block g (zgE.1 h.row).1 (by simp)]; exact h.row}
theorem zet {w:World} {bs g cap:Nat} {cur:Array Value} {st st':Tw.SS} (h:RowAt w bs g cap cur st) {fuel r r':Nat} (hf:Tw.zdq fuel st r=some (r',st')) :
  Calls Tryz.prog 177 #[.pointer (some ⟨bs,0,none⟩),.int .i64 r] w fun e w'=>e = .returned (.int .i64 r')/\UK bs g w w'/\∃cur',RowAt w' bs g cap cur' st':=by
 have HH:Hid (RowAt w bs g cap cur st):=h
 have HF:Hid (Tw.zdq fuel st r=some (r',st')):=hf
 have hbs:bs<w.heap.size:=(zgE.1 h.solver).1
 have c237:Tryz.prog.cellsOf 334=4:=by kernel_rfl
 have hm:=h.many
 clear h hf
 go_enter Tryz.func177,Tryz.ntmps177
 go_wp2_with fail
 go_loopg [1] fuel (fun k rv wr=>∃(q:Nat) (stk:Tw.SS) (curk:Array Value),rv = .int .i64 q/\Hid (RowAt wr bs g cap curk stk)/\Hid (UK bs g w wr)/\Hid (Tw.zdq k stk q=some (r',st')))
 case atStart=>exact ⟨r,st,cur,rfl,HH,UK.refl _ _ _,HF⟩
 case round =>
  obtain ⟨q,stk,curk,rfl,PR,KR,HR⟩:=hrel
  cases gk with
  | zero=>have:=HR.out; simp [Tw.zdq] at this
  | succ k =>
  have HR2:=HR.out
  rw [Tw.zdq] at HR2
  cases hx:stk.shs[q]? with
  | none=>rw [hx] at HR2; simp at HR2
  | some x =>
  rw [hx] at HR2
  simp only at HR2
  obtain ⟨hq,x0,x1,x2,x3⟩:=PR.out.sh hx
  have hmk:=PR.out.many
  obtain ⟨s0,s1,_,_⟩:=zau PR.out.solver
  have hqi:(q:Int)<(stk.shs.length:Int):=by omega
  have HX:Hid (stk.shs[q]? = some x):=hx
  clear hx HR
  by_cases hs:x.same=q
  ·rw [if_pos hs] at HR2
   simp only [zsI,zpI] at HR2
   obtain ⟨rfl,rfl⟩:=HR2
   have bz:((x.same:Int) != (q:Int))=false:=by simp [hs]
   clear hs
   go_wp2_with fail
   go_ret
   exact ⟨rfl,KR.out,curk,PR.out⟩
  ·rw [if_neg hs] at HR2
   cases hy:stk.shs[x.same]? with
   | none=>rw [hy] at HR2; simp at HR2
   | some y =>
   rw [hy] at HR2
   simp only at HR2
   obtain ⟨hq2,y0,y1,y2,y3⟩:=PR.out.sh hy
   have hqi2:(x.same:Int)<(stk.shs.length:Int):=by omega
   have bz:((x.same:Int) != (q:Int))=true:=by simp; omega
   have fz:=PR.out.fz (q * 4+3)
   have H5:Hid (Tw.zdq k (Tw.za9 stk q x y.same) x.same=some (r',st')):=HR2
   clear hy HR2 hs x0 x1 x2 y0 y1 y2
   go_wp2_with fail
   go_region
   go_wp2_with fail
   go_roundg k
   case measure=>omega
   case rel=>exact ⟨x.same,_,_,rfl,RowAt.drew (RowAt.set PR.out HX.out y.same),UK.drew (KR.out.setRow _ _),H5⟩
open Go.RowKit
def yf0 (bs g cap:Nat) (w:World) (st':Tw.SS) (e:Ending) (w':World):Prop:=e = .returned (.tuple #[])/\UK bs g w w'/\∃cur',RowAt w' bs g cap cur' st'
def zzi (n:Nat):Prop:=∀ {w:World} {bs g cap:Nat} {cur:Array Value} {st st':Tw.SS} {a b:Nat},RowAt w bs g cap cur st->Tw.zcp n st a b=some st' ->
  Calls Tryz.prog 176 #[.pointer (some ⟨bs,0,none⟩),.int .i64 a,.int .i64 b] w (yf0 bs g cap w st')
theorem RowAt.clash {w:World} {bs g cap:Nat} {cur:Array Value} {st:Tw.SS} (h:RowAt w bs g cap cur st):RowAt (w.setCell ⟨bs,1,none⟩ (.bool true)) bs g cap cur {st with clash:=true} :=
 {h with solver:=by rw [heap_setCell_same _ _ _ _ _ _ h.solver]; rfl,row:=by rw [heap_setCell_other _ _ _ _ (by simpa using h.ne)]; exact h.row}
theorem zbl {w:World} {b:Nat} {x y z u:Value} {t:TypeId} (h:w.heap[b]? = some (.cells #[x,y,z,u] t (0,0))) :
  w.cell? ⟨b,0,none⟩=some x/\w.cell? ⟨b,1,none⟩=some y/\w.cell? ⟨b,2,none⟩=some z/\w.cell? ⟨b,3,none⟩=some u:=by
 refine ⟨?_,?_,?_,?_⟩ <;> (rw [cell_of_row w b _ _ _ _ h]; rfl)
theorem yec (w:World) (a:Addr) (v:Value) (o1 o2:Obj):(((w.setCell a v).alloc o1).alloc o2).drew.heap[w.heap.size]? = some o1/\(((w.setCell a v).alloc o1).alloc o2).drew.heap[w.heap.size+1]? = some o2:=by
 have e1:(w.setCell a v).heap.size=w.heap.size:=by simp
 have e2:((w.setCell a v).alloc o1).heap.size=w.heap.size+1:=by simp
 refine ⟨?_,?_⟩
 ·have:=zin (zad (w.setCell a v) o1) o2
  rw [e1] at this
  exact this
 ·have:=zad ((w.setCell a v).alloc o1) o2
  rw [e2] at this
  exact this
theorem zwp {n:Nat} (ih:zzi n):zzi (n+1):=by
 intro w bs g cap cur st st' a b h hf
 rw [Tw.zcp] at hf
 obtain ⟨⟨p,st1⟩,hp,hf1⟩:=zbE.1 hf
 obtain ⟨⟨q,st2⟩,hq,hf2⟩:=zbE.1 hf1
 clear hf hf1
 simp only at hq hf2
 cases hx:st2.shs[p]? with
 | none=>rw [hx] at hf2; simp at hf2
 | some x =>
 cases hy:st2.shs[q]? with
 | none=>rw [hx,hy] at hf2; simp at hf2
 | some y =>
 rw [hx,hy] at hf2
 simp only at hf2
 have HH:Hid (RowAt w bs g cap cur st):=h
 have H1:Hid (Tw.zdq n st a=some (p,st1)):=hp
 have H2:Hid (Tw.zdq n st1 b=some (q,st2)):=hq
 have HX:Hid (st2.shs[p]? = some x):=hx
 have HY:Hid (st2.shs[q]? = some y):=hy
 have HF:=bV hf2
 have c237:Tryz.prog.cellsOf 334=4:=by kernel_rfl
 have IH:zzi n:=ih
 clear h hp hq hx hy hf2 ih
 go_enter Tryz.func176,Tryz.ntmps176
 go_wp2_with fail
 refine (zet HH.out H1.out).mono ?_
 rintro e w1 ⟨rfl,hk,cur1,h⟩
 have P1:Hid (RowAt w1 bs g cap cur1 st1):=h
 have K1:Hid (UK bs g w w1):=hk
 clear hk h
 go_wp2_with fail
 refine (zet P1.out H2.out).mono ?_
 rintro e w2 ⟨rfl,hk,cur2,h⟩
 have P2:Hid (RowAt w2 bs g cap cur2 st2):=h
 have K2:Hid (UK bs g w w2):=K1.out.trans hk
 obtain ⟨hp,x0,x1,x2,x3⟩:=h.sh HX.out
 obtain ⟨hq,y0,y1,y2,y3⟩:=h.sh HY.out
 obtain ⟨s0,s1,f0,f1⟩:=zau h.solver
 have hpi:(p:Int)<(st2.shs.length:Int):=by omega
 have hqi:(q:Int)<(st2.shs.length:Int):=by omega
 have hm:=h.many
 have hbs:bs<w2.heap.size:=(zgE.1 h.solver).1
 have hgg:g<w2.heap.size:=(zgE.1 h.row).1
 have hgb:g≠bs:=h.ne
 clear hk h
 go_wp2_with fail
 have z0:=P2.out.fz (p * 4+3)
 have z1:=P2.out.fz (q * 4+3)
 go_region
 all_goals
  by_cases hpq:p=q
  ·have e:=HF.out
   rw [if_pos hpq] at e
   simp only [zsI] at e
   subst e
   have bz:((p:Int)==(q:Int))=true:=by simp [hpq]
   clear hpq HF
   go_wp2_with fail
   go_end0
   exact ⟨rfl,((K2.out.alloc _).alloc _).drew,cur2,((P2.out.grown (zwA _ _ none)).grown (zwA _ _ none)).drew⟩
  have HF1:=HF.out
  rw [if_neg hpq] at HF1
  have bz:((p:Int)==(q:Int))=false:=by simp; omega
  clear HF hpq
  by_cases hx0:x.sort=0
  ·rw [if_pos hx0] at HF1
   simp only [zsI] at HF1
   subst HF1
   have bx:(x.sort==0)=true:=by simp [hx0]
   clear hx0
   go_wp2_with fail
   go_end0
   exact ⟨rfl,(((K2.out.setRow _ _).alloc _).alloc _).drew,_,(((P2.out.set HX.out q).grown (zwA _ _ none)).grown (zwA _ _ none)).drew⟩
  rw [if_neg hx0] at HF1
  have bx:(x.sort==0)=false:=by simp [hx0]
  clear hx0
  by_cases hy0:y.sort=0
  ·rw [if_pos hy0] at HF1
   simp only [zsI] at HF1
   subst HF1
   have by0:(y.sort==0)=true:=by simp [hy0]
   clear hy0
   go_wp2_with fail
   go_end0
   exact ⟨rfl,(((K2.out.setRow _ _).alloc _).alloc _).drew,_,(((P2.out.set HY.out p).grown (zwA _ _ none)).grown (zwA _ _ none)).drew⟩
  rw [if_neg hy0] at HF1
  have by0:(y.sort==0)=false:=by simp [hy0]
  clear hy0
  by_cases hxy:x.sort=y.sort
  ·rw [if_pos hxy] at HF1
   obtain ⟨st3,h3,h4⟩:=zbE.1 HF1
   clear HF1
   have H3:Hid (Tw.zcp n (Tw.za9 st2 p x q) x.left y.left=some st3):=h3
   have H4:Hid (Tw.zcp n st3 x.right y.right=some st'):=h4
   have bxy:(x.sort != y.sort)=false:=by simp [hxy]
   clear h3 h4 hxy
   have PS:=P2.out.set HX.out q
   go_wp2_with fail
   refine (IH ((PS.grown (zwA _ _ none)).grown (zwA _ _ none)).drew H3.out).mono ?_
   rintro e w3 ⟨rfl,hk,cur3,h⟩
   have P3:Hid (RowAt w3 bs g cap cur3 st3):=h
   have K3:Hid (UK bs g w w3):=((((K2.out.setRow _ _).alloc _).alloc _).drew).trans hk
   obtain ⟨m1,m2⟩:=yec w2 ⟨g,p * 4+3,none⟩ (.int .i64 q) _ _
   obtain ⟨i0,i1,i2,i3⟩:=zbl (hk.at m1 (by omega) (by omega))
   obtain ⟨j0,j1,j2,j3⟩:=zbl (hk.at m2 (by omega) (by omega))
   clear hk h m1 m2 x0 x1 x2 x3 y0 y1 y2 y3 s0 s1 f0 f1 z0 z1
   go_wp2_with fail
   refine (IH P3.out H4.out).mono ?_
   rintro e w4 ⟨rfl,hk,cur4,h⟩
   have X:Hid (UK bs g w w4/\∃cur',RowAt w4 bs g cap cur' st'):=⟨K3.out.trans hk,cur4,h⟩
   clear hk h
   go_wp2_with fail
   go_end0
   exact ⟨rfl,X.out⟩
  ·rw [if_neg hxy] at HF1
   simp only [zsI] at HF1
   subst HF1
   have bxy:(x.sort != y.sort)=true:=by simp [hxy]
   clear hxy
   go_wp2_with fail
   go_end0
   exact ⟨rfl,(((K2.out.set 1 _).alloc _).alloc _).drew,_,((P2.out.clash.grown (zwA _ _ none)).grown (zwA _ _ none)).drew⟩
theorem zr5:∀n,zzi n
 | 0=>fun _ hf=>by simp [Tw.zcp] at hf
 | n+1=>zwp (zr5 n)
open Go.RowKit
def Sol (w:World) (bs:Nat) (st:Tw.SS):Prop:=∃g cap cur,RowAt w bs g cap cur st
theorem nodeAt.sk {bs:Nat} {w w':World} {st:Tw.SS} (hS:Sol w bs st) (hk:SK bs w w') {lo hi fr to:Nat} {rest:List Value} {pt ty:TypeId} {v:Value} (h:nodeAt w lo hi fr to rest pt ty v)
  (_h1:ty≠128) (h2:ty≠334):nodeAt w' lo hi fr to rest pt ty v:=by
 obtain ⟨b,b1,b2,hv,hb⟩:=h
 obtain ⟨g,cap,cur,hR⟩:=hS
 refine ⟨b,b1,b2,hv,hk.at hb (fun e => ?_) (fun cur m e => ?_)⟩
 ·subst e
  rw [hR.solver] at hb
  simp at hb
 ·simp at e
  exact h2 e.2.1
theorem Rep.sk {bs:Nat} {w w':World} {st:Tw.SS} (hS:Sol w bs st) (hk:SK bs w w') {lo hi:Nat}:∀ {t:Tw.T} {v:Value},Rep w lo hi t v->Rep w' lo hi t v
 | .name ..,_,h=>nodeAt.sk hS hk h (by decide) (by decide)
 | .int ..,_,h=>nodeAt.sk hS hk h (by decide) (by decide)
 | .truth ..,_,h=>nodeAt.sk hS hk h (by decide) (by decide)
 | .side ..,_,h=>nodeAt.sk hS hk h (by decide) (by decide)
 | .bracket ..,_,⟨v1,h,r1⟩=>⟨v1,h.sk hS hk (by decide) (by decide),Rep.sk hS hk r1⟩
 | .pair ..,_,⟨v1,v2,h,r1,r2⟩=>⟨v1,v2,h.sk hS hk (by decide) (by decide),Rep.sk hS hk r1,Rep.sk hS hk r2⟩
 | .call ..,_,⟨v1,v2,h,r1,r2⟩=>⟨v1,v2,h.sk hS hk (by decide) (by decide),Rep.sk hS hk r1,Rep.sk hS hk r2⟩
 | .binary ..,_,⟨v1,v2,h,r1,r2⟩=>⟨v1,v2,h.sk hS hk (by decide) (by decide),Rep.sk hS hk r1,Rep.sk hS hk r2⟩
 | .cond ..,_,⟨v1,v2,v3,h,r1,r2,r3⟩=>⟨v1,v2,v3,h.sk hS hk (by decide) (by decide),Rep.sk hS hk r1,Rep.sk hS hk r2,Rep.sk hS hk r3⟩
 | .fn ..,_,⟨v1,h,r1⟩=>⟨v1,h.sk hS hk (by decide) (by decide),Rep.sk hS hk r1⟩
 | .lett ..,_,⟨v1,v2,h,r1,r2⟩=>⟨v1,v2,h.sk hS hk (by decide) (by decide),Rep.sk hS hk r1,Rep.sk hS hk r2⟩
def EnvAt (w:World) (hi:Nat):Tw.En->Value->Prop
 | .nil,v=>v = .pointer none
 | .fix n r o,v=>∃b vo,v = .pointer (some ⟨b,0,none⟩)/\w.heap[b]? = some (.cells #[ug n,.int .i64 r,.pointer none,.pointer none,vo] 339 (0,0))/\EnvAt w hi o vo
 | .dfn n t o,v=>∃b vo bl,v = .pointer (some ⟨b,0,none⟩)/\w.heap[b]? = some (.cells #[ug n,.int .i64 0,.pointer (some ⟨bl,0,none⟩),vo,vo] 339 (0,0))/\EnvAt w hi o vo/\Rep w 0 hi t (.iface 136 (.pointer (some ⟨bl,0,none⟩)))
theorem ye8 {bs:Nat} {w w':World} {st:Tw.SS} (hS:Sol w bs st) (hk:SK bs w w') {b:Nat} {cur:Array Value} (hb:w.heap[b]? = some (.cells cur 339 (0,0))):w'.heap[b]? = some (.cells cur 339 (0,0)):=by
 obtain ⟨g,cap,cur0,hR⟩:=hS
 refine hk.at hb (fun e => ?_) (fun cur m e => ?_)
 ·subst e
  rw [hR.solver] at hb
  simp at hb
 ·simp at e
theorem EnvAt.sk {bs:Nat} {w w':World} {st:Tw.SS} (hS:Sol w bs st) (hk:SK bs w w') {hi:Nat}:∀ {e:Tw.En} {v:Value},EnvAt w hi e v->EnvAt w' hi e v
 | .nil,_,h=>h
 | .fix ..,_,⟨b,vo,hv,hb,ho⟩=>⟨b,vo,hv,ye8 hS hk hb,EnvAt.sk hS hk ho⟩
 | .dfn ..,_,⟨b,vo,bl,hv,hb,ho,hr⟩=>⟨b,vo,bl,hv,ye8 hS hk hb,EnvAt.sk hS hk ho,Rep.sk hS hk hr⟩
theorem EnvAt.grown {w w':World} (hk:w.grownBy w' none) {hi:Nat}:∀ {e:Tw.En} {v:Value},EnvAt w hi e v->EnvAt w' hi e v
 | .nil,_,h=>h
 | .fix ..,_,⟨b,vo,hv,hb,ho⟩=>⟨b,vo,hv,zbG hk hb,EnvAt.grown hk ho⟩
 | .dfn ..,_,⟨b,vo,bl,hv,hb,ho,hr⟩=>⟨b,vo,bl,hv,zbG hk hb,EnvAt.grown hk ho,hr.grown hk (znL _) (znL _)⟩
theorem Sol.grown {w w':World} {bs:Nat} {st:Tw.SS} (h:Sol w bs st) (hg:w.grownBy w' none):Sol w' bs st:=by
 obtain ⟨g,cap,cur,hR⟩:=h
 exact ⟨g,cap,cur,hR.grown hg⟩
theorem EnvAt.ptr {w:World} {hi:Nat} {e:Tw.En} {v:Value} (h:EnvAt w hi e v):∃a,v = .pointer a:=by
 cases e with
 | nil=>exact ⟨none,h⟩
 | fix=>obtain ⟨b,_,hv,_⟩:=h; exact ⟨_,hv⟩
 | dfn=>obtain ⟨b,_,_,hv,_⟩:=h; exact ⟨_,hv⟩
theorem zk3 {w:World} {bs:Nat} {st st':Tw.SS} (h:Sol w bs st) (of:Int) (l r:Nat) {n:Nat} (hf:Tw.addS of l r st=some (n,st')) :
  Calls Tryz.prog 97 #[.pointer (some ⟨bs,0,none⟩),.int .i64 of,.int .i64 l,.int .i64 r] w fun e w'=>e = .returned (.int .i64 n)/\SK bs w w'/\Sol w' bs st':=by
 obtain ⟨g,cap,cur,hR⟩:=h
 refine (zs3 hR.sol of l r hf).mono ?_
 rintro e w' ⟨rfl,hk,v',hv⟩
 refine ⟨rfl,hk,?_⟩
 have hp:0<st'.shs.length:=by
  unfold Tw.addS at hf
  split at hf
  ·simp only [zsI,zpI] at hf
   obtain ⟨_,rfl⟩:=hf
   simp
  ·cases hf
 obtain ⟨g',cap',cur',_,hR'⟩:=hv.row hp
 exact ⟨g',cap',cur',hR'⟩
theorem ziq {w:World} {bs:Nat} {st st':Tw.SS} (h:Sol w bs st) {n:Nat} (hf:Tw.addS 0 0 0 st=some (n,st')) :
  Calls Tryz.prog 103 #[.pointer (some ⟨bs,0,none⟩)] w fun e w'=>e = .returned (.int .i64 n)/\SK bs w w'/\Sol w' bs st':=by
 have HH:Hid (Sol w bs st):=h
 have H1:Hid (Tw.addS 0 0 0 st=some (n,st')):=hf
 clear h hf
 go_enter Tryz.func103,Tryz.ntmps103
 go_wp2_with fail
 refine (zk3 HH.out 0 0 0 H1.out).mono ?_
 rintro e w1 ⟨rfl,hX⟩
 have X:Hid (SK bs w w1/\Sol w1 bs st'):=hX
 clear hX
 go_wp2_with fail
 go_ret
 exact ⟨rfl,X.out⟩
theorem zg4 {w:World} {bs:Nat} {st st':Tw.SS} (h:Sol w bs st) {n a b:Nat} (hf:Tw.zcp n st a b=some st') :
  Calls Tryz.prog 176 #[.pointer (some ⟨bs,0,none⟩),.int .i64 a,.int .i64 b] w fun e w'=>e = .returned (.tuple #[])/\SK bs w w'/\Sol w' bs st':=by
 obtain ⟨g,cap,cur,hR⟩:=h
 refine (zr5 n hR hf).mono ?_
 rintro e w' ⟨rfl,hk,cur',hR'⟩
 exact ⟨rfl,hk.sk hR.row hR.low,g,cap,cur',hR'⟩
theorem zp2 {w:World} {hi:Nat} (e:Tw.En) (v:Value) (he:EnvAt w hi e v) (n:List UInt8) (r:Nat) (pl po:Option Addr) :
  Calls Tryz.prog 104 #[v,ug n,.agg #[.int .i64 r,.pointer pl,.pointer po]] w fun e w'=>∃b,e = .returned (.pointer (some ⟨b,0,none⟩))/\w.grownBy w' none/\w'.heap[b]? = some (.cells #[ug n,.int .i64 r,.pointer pl,.pointer po,v] 339 (0,0)):=by
 obtain ⟨a,rfl⟩:=he.ptr
 clear he
 go_enter Tryz.func104,Tryz.ntmps104
 go_wp2_with fail
 go_ret
 go_light
 have NW:=zad (w.alloc (.cells #[.int .i64 r,.pointer pl,.pointer po] 238)) (.cells #[ug n,.int .i64 r,.pointer pl,.pointer po,.pointer a] 339)
 rw [show (w.alloc (.cells #[.int .i64 r,.pointer pl,.pointer po] 238)).heap.size=w.heap.size+1 from by simp] at NW
 exact ⟨_,rfl,zae (zwA _ _ none) _,NW⟩
open Go.RowKit
def yd0 (w:World) (hi:Nat) (m:Nat ⊕ (Tw.T×Tw.En)) (e:Ending) (w':World):Prop :=
 w.grownBy w' none/\match m with
 | .inl r=>∃po,e = .returned (.tuple #[.agg #[.int .i64 r,.pointer none,.pointer po],.bool true])
 | .inr (t,o)=>∃bl po,e = .returned (.tuple #[.agg #[.int .i64 0,.pointer (some ⟨bl,0,none⟩),.pointer po],.bool true])/\EnvAt w hi o (.pointer po)/\Rep w 0 hi t (.iface 136 (.pointer (some ⟨bl,0,none⟩)))
def Tw.En.size:Tw.En->Nat
 | .nil=>0
 | .fix _ _ o=>o.size+1
 | .dfn _ _ o=>o.size+1
theorem zud {w:World} {hi:Nat} {e:Tw.En} {v:Value} (he:EnvAt w hi e v) (x:List UInt8) {m:Nat ⊕ (Tw.T×Tw.En)} (hm:e.look x=some m) :
  Calls Tryz.prog 175 #[v,ug x] w (yd0 w hi m):=by
 have HE:Hid (EnvAt w hi e v):=he
 have HM:Hid (e.look x=some m):=hm
 clear he hm
 go_enter Tryz.func175,Tryz.ntmps175
 go_wp2_with fail
 go_loopg [0] e.size (fun k pv wr=>wr=w.alloc (.cells #[.int .i64 0,.pointer none,.pointer none] 238)/\∃ek:Tw.En,k=ek.size/\Hid (EnvAt w hi ek pv)/\Hid (ek.look x=some m))
 case atStart=>exact ⟨rfl,e,rfl,HE,HM⟩
 case round =>
  obtain ⟨hw,ek,hks,HK,HL⟩:=hrel
  subst hw
  cases ek with
  | nil=>have:=HL.out; simp [Tw.En.look] at this
  | fix n r o =>
   obtain ⟨b,vo,hv,hb,ho⟩:=HK.out
   obtain ⟨a,rfl⟩:=ho.ptr
   subst hv
   obtain ⟨c0,c1,c2,c3,c4⟩:=zcf hb
   have hbl:b<w.heap.size:=(zgE.1 hb).1
   have HO:Hid (EnvAt w hi o (.pointer a)):=ho
   have hl:=HL.out
   simp only [Tw.En.look] at hl
   clear HK HL hb ho HE HM
   by_cases hn:n=x
   ·rw [if_pos hn] at hl
    simp only [zsI] at hl
    subst hl
    have be:(n==x)=true:=by simp [hn]
    have HX:Hid (n=x):=hn
    clear hn
    go_wp2_with fail
    exact bodyPost_ret (v:=.tuple #[.agg #[.int .i64 r,.pointer none,.pointer none],.bool true]) (by simp [results,Tryz.results175,go_sem]) rfl ⟨zwA _ _ none,none,rfl⟩
   ·rw [if_neg hn] at hl
    have be:(n==x)=false:=by simp [hn]
    have HL:Hid (o.look x=some m):=hl
    clear hn hl
    go_wp2_with fail
    go_roundg o.size
    case measure=>simp [Tw.En.size] at hks; omega
    case rel=>exact ⟨rfl,o,rfl,HO,HL⟩
  | dfn n t o =>
   obtain ⟨b,vo,bl,hv,hb,ho,hr⟩:=HK.out
   obtain ⟨a,rfl⟩:=ho.ptr
   subst hv
   obtain ⟨c0,c1,c2,c3,c4⟩:=zcf hb
   have hbl:b<w.heap.size:=(zgE.1 hb).1
   have HO:Hid (EnvAt w hi o (.pointer a)):=ho
   have HR:Hid (Rep w 0 hi t (.iface 136 (.pointer (some ⟨bl,0,none⟩)))):=hr
   have hl:=HL.out
   simp only [Tw.En.look] at hl
   clear HK HL hb ho HE HM hr
   by_cases hn:n=x
   ·rw [if_pos hn] at hl
    simp only [zsI] at hl
    subst hl
    have be:(n==x)=true:=by simp [hn]
    have HX:Hid (n=x):=hn
    clear hn
    go_wp2_with fail
    exact bodyPost_ret (v:=.tuple #[.agg #[.int .i64 0,.pointer (some ⟨bl,0,none⟩),.pointer a],.bool true]) (by simp [results,Tryz.results175,go_sem]) rfl ⟨zwA _ _ none,bl,a,rfl,HO.out,HR.out⟩
   ·rw [if_neg hn] at hl
    have be:(n==x)=false:=by simp [hn]
    have HL:Hid (o.look x=some m):=hl
    clear hn hl
    go_wp2_with fail
    go_roundg o.size
    case measure=>simp [Tw.En.size] at hks; omega
    case rel=>exact ⟨rfl,o,rfl,HO,HL⟩
open Go.RowKit
abbrev TaNo (X Y:TypeId):Prop:=∀(a:Option Addr) (w:World),Sem.run Tryz.prog (Instr.typeAssert (.iface X (.pointer a)) 68 Y true) w = .ok (.tuple #[.pointer none,.bool false]) w
theorem zfh (a:Option Addr) (w:World):Sem.run Tryz.prog (Instr.typeAssert (.iface 83 (.pointer a)) 68 83 true) w = .ok (.tuple #[.pointer a,.bool true]) w:=by kernel_rfl
theorem zue:TaNo 83 191:=fun _ _=>by kernel_rfl
theorem zrn:TaNo 83 195:=fun _ _=>by kernel_rfl
theorem zs4:TaNo 83 199:=fun _ _=>by kernel_rfl
theorem zjq:TaNo 83 204:=fun _ _=>by kernel_rfl
theorem zmq:TaNo 83 207:=fun _ _=>by kernel_rfl
theorem zmr:TaNo 83 209:=fun _ _=>by kernel_rfl
theorem zjy:TaNo 83 211:=fun _ _=>by kernel_rfl
theorem zp3:TaNo 83 213:=fun _ _=>by kernel_rfl
theorem zgf:TaNo 83 215:=fun _ _=>by kernel_rfl
theorem zgg:TaNo 83 136:=fun _ _=>by kernel_rfl
theorem zgh:TaNo 191 83:=fun _ _=>by kernel_rfl
theorem zl2 (a:Option Addr) (w:World):Sem.run Tryz.prog (Instr.typeAssert (.iface 191 (.pointer a)) 68 191 true) w = .ok (.tuple #[.pointer a,.bool true]) w:=by kernel_rfl
theorem zms:TaNo 191 195:=fun _ _=>by kernel_rfl
theorem zov:TaNo 191 199:=fun _ _=>by kernel_rfl
theorem zjz:TaNo 191 204:=fun _ _=>by kernel_rfl
theorem zow:TaNo 191 207:=fun _ _=>by kernel_rfl
theorem zox:TaNo 191 209:=fun _ _=>by kernel_rfl
theorem zln:TaNo 191 211:=fun _ _=>by kernel_rfl
theorem zr6:TaNo 191 213:=fun _ _=>by kernel_rfl
theorem ze1:TaNo 191 215:=fun _ _=>by kernel_rfl
theorem zfx:TaNo 191 136:=fun _ _=>by kernel_rfl
theorem zeu:TaNo 195 83:=fun _ _=>by kernel_rfl
theorem zi4:TaNo 195 191:=fun _ _=>by kernel_rfl
theorem zhd (a:Option Addr) (w:World):Sem.run Tryz.prog (Instr.typeAssert (.iface 195 (.pointer a)) 68 195 true) w = .ok (.tuple #[.pointer a,.bool true]) w:=by kernel_rfl
theorem zlo:TaNo 195 199:=fun _ _=>by kernel_rfl
theorem zir:TaNo 195 204:=fun _ _=>by kernel_rfl
theorem zlp:TaNo 195 207:=fun _ _=>by kernel_rfl
theorem zlq:TaNo 195 209:=fun _ _=>by kernel_rfl
theorem zjr:TaNo 195 211:=fun _ _=>by kernel_rfl
theorem zoy:TaNo 195 213:=fun _ _=>by kernel_rfl
theorem zdu:TaNo 195 215:=fun _ _=>by kernel_rfl
theorem zem:TaNo 195 136:=fun _ _=>by kernel_rfl
theorem zfi:TaNo 199 83:=fun _ _=>by kernel_rfl
theorem zj0:TaNo 199 191:=fun _ _=>by kernel_rfl
theorem zib:TaNo 199 195:=fun _ _=>by kernel_rfl
theorem zi5 (a:Option Addr) (w:World):Sem.run Tryz.prog (Instr.typeAssert (.iface 199 (.pointer a)) 68 199 true) w = .ok (.tuple #[.pointer a,.bool true]) w:=by kernel_rfl
theorem zjs:TaNo 199 204:=fun _ _=>by kernel_rfl
theorem zmt:TaNo 199 207:=fun _ _=>by kernel_rfl
theorem zmu:TaNo 199 209:=fun _ _=>by kernel_rfl
theorem zj1:TaNo 199 211:=fun _ _=>by kernel_rfl
theorem zp4:TaNo 199 213:=fun _ _=>by kernel_rfl
theorem zee:TaNo 199 215:=fun _ _=>by kernel_rfl
theorem ze9:TaNo 199 136:=fun _ _=>by kernel_rfl
theorem zd2:TaNo 204 83:=fun _ _=>by kernel_rfl
theorem zhe:TaNo 204 191:=fun _ _=>by kernel_rfl
theorem zfy:TaNo 204 195:=fun _ _=>by kernel_rfl
theorem zgp:TaNo 204 199:=fun _ _=>by kernel_rfl
theorem zdv (a:Option Addr) (w:World):Sem.run Tryz.prog (Instr.typeAssert (.iface 204 (.pointer a)) 68 204 true) w = .ok (.tuple #[.pointer a,.bool true]) w:=by kernel_rfl
theorem zgq:TaNo 204 207:=fun _ _=>by kernel_rfl
theorem zjt:TaNo 204 209:=fun _ _=>by kernel_rfl
theorem zhw:TaNo 204 211:=fun _ _=>by kernel_rfl
theorem zlr:TaNo 204 213:=fun _ _=>by kernel_rfl
theorem zc6:TaNo 204 215:=fun _ _=>by kernel_rfl
theorem zdn:TaNo 204 136:=fun _ _=>by kernel_rfl
theorem zfj:TaNo 207 83:=fun _ _=>by kernel_rfl
theorem zj2:TaNo 207 191:=fun _ _=>by kernel_rfl
theorem zic:TaNo 207 195:=fun _ _=>by kernel_rfl
theorem zi6:TaNo 207 199:=fun _ _=>by kernel_rfl
theorem zgr:TaNo 207 204:=fun _ _=>by kernel_rfl
theorem zgw (a:Option Addr) (w:World):Sem.run Tryz.prog (Instr.typeAssert (.iface 207 (.pointer a)) 68 207 true) w = .ok (.tuple #[.pointer a,.bool true]) w:=by kernel_rfl
theorem zmv:TaNo 207 209:=fun _ _=>by kernel_rfl
theorem zj3:TaNo 207 211:=fun _ _=>by kernel_rfl
theorem zp5:TaNo 207 213:=fun _ _=>by kernel_rfl
theorem zef:TaNo 207 215:=fun _ _=>by kernel_rfl
theorem zfa:TaNo 207 136:=fun _ _=>by kernel_rfl
theorem zfk:TaNo 209 83:=fun _ _=>by kernel_rfl
theorem zj4:TaNo 209 191:=fun _ _=>by kernel_rfl
theorem zid:TaNo 209 195:=fun _ _=>by kernel_rfl
theorem zi7:TaNo 209 199:=fun _ _=>by kernel_rfl
theorem zey:TaNo 209 204:=fun _ _=>by kernel_rfl
theorem zgx:TaNo 209 207:=fun _ _=>by kernel_rfl
theorem zi8 (a:Option Addr) (w:World):Sem.run Tryz.prog (Instr.typeAssert (.iface 209 (.pointer a)) 68 209 true) w = .ok (.tuple #[.pointer a,.bool true]) w:=by kernel_rfl
theorem zj5:TaNo 209 211:=fun _ _=>by kernel_rfl
theorem zp6:TaNo 209 213:=fun _ _=>by kernel_rfl
theorem zeg:TaNo 209 215:=fun _ _=>by kernel_rfl
theorem zfb:TaNo 209 136:=fun _ _=>by kernel_rfl
theorem zeh:TaNo 211 83:=fun _ _=>by kernel_rfl
theorem zie:TaNo 211 191:=fun _ _=>by kernel_rfl
theorem zgs:TaNo 211 195:=fun _ _=>by kernel_rfl
theorem zhf:TaNo 211 199:=fun _ _=>by kernel_rfl
theorem zec:TaNo 211 204:=fun _ _=>by kernel_rfl
theorem zfl:TaNo 211 207:=fun _ _=>by kernel_rfl
theorem zhg:TaNo 211 209:=fun _ _=>by kernel_rfl
theorem zfz (a:Option Addr) (w:World):Sem.run Tryz.prog (Instr.typeAssert (.iface 211 (.pointer a)) 68 211 true) w = .ok (.tuple #[.pointer a,.bool true]) w:=by kernel_rfl
theorem zmw:TaNo 211 213:=fun _ _=>by kernel_rfl
theorem zdi:TaNo 211 215:=fun _ _=>by kernel_rfl
theorem zd8:TaNo 211 136:=fun _ _=>by kernel_rfl
theorem zhh:TaNo 213 83:=fun _ _=>by kernel_rfl
theorem zn2:TaNo 213 191:=fun _ _=>by kernel_rfl
theorem zj6:TaNo 213 195:=fun _ _=>by kernel_rfl
theorem zl3:TaNo 213 199:=fun _ _=>by kernel_rfl
theorem zf9:TaNo 213 204:=fun _ _=>by kernel_rfl
theorem zi9:TaNo 213 207:=fun _ _=>by kernel_rfl
theorem zl4:TaNo 213 209:=fun _ _=>by kernel_rfl
theorem zja:TaNo 213 211:=fun _ _=>by kernel_rfl
theorem zp7 (a:Option Addr) (w:World):Sem.run Tryz.prog (Instr.typeAssert (.iface 213 (.pointer a)) 68 213 true) w = .ok (.tuple #[.pointer a,.bool true]) w:=by kernel_rfl
theorem zf0:TaNo 213 215:=fun _ _=>by kernel_rfl
theorem zg5:TaNo 213 136:=fun _ _=>by kernel_rfl
theorem zgi:TaNo 215 83:=fun _ _=>by kernel_rfl
theorem zp8:TaNo 215 191:=fun _ _=>by kernel_rfl
theorem zjb:TaNo 215 195:=fun _ _=>by kernel_rfl
theorem zj7:TaNo 215 199:=fun _ _=>by kernel_rfl
theorem zhi:TaNo 215 204:=fun _ _=>by kernel_rfl
theorem zj8:TaNo 215 207:=fun _ _=>by kernel_rfl
theorem zj9:TaNo 215 209:=fun _ _=>by kernel_rfl
theorem zif:TaNo 215 211:=fun _ _=>by kernel_rfl
theorem zn3:TaNo 215 213:=fun _ _=>by kernel_rfl
theorem zdw (a:Option Addr) (w:World):Sem.run Tryz.prog (Instr.typeAssert (.iface 215 (.pointer a)) 68 215 true) w = .ok (.tuple #[.pointer a,.bool true]) w:=by kernel_rfl
theorem zei:TaNo 215 136:=fun _ _=>by kernel_rfl
theorem zgj:TaNo 136 83:=fun _ _=>by kernel_rfl
theorem zl5:TaNo 136 191:=fun _ _=>by kernel_rfl
theorem zjc:TaNo 136 195:=fun _ _=>by kernel_rfl
theorem zka:TaNo 136 199:=fun _ _=>by kernel_rfl
theorem zfm:TaNo 136 204:=fun _ _=>by kernel_rfl
theorem zhx:TaNo 136 207:=fun _ _=>by kernel_rfl
theorem zkb:TaNo 136 209:=fun _ _=>by kernel_rfl
theorem zig:TaNo 136 211:=fun _ _=>by kernel_rfl
theorem zn4:TaNo 136 213:=fun _ _=>by kernel_rfl
theorem zdx:TaNo 136 215:=fun _ _=>by kernel_rfl
theorem zcv (a:Option Addr) (w:World):Sem.run Tryz.prog (Instr.typeAssert (.iface 136 (.pointer a)) 68 136 true) w = .ok (.tuple #[.pointer a,.bool true]) w:=by kernel_rfl
open Go.RowKit
def zd5 (bs:Nat) (w:World) (r:Nat) (st':Tw.SS) (e:Ending) (w':World):Prop:=e = .returned (.int .i64 r)/\SK bs w w'/\Sol w' bs st'
def zc4 (n:Nat):Prop:=∀ {w:World} {bs hi:Nat} {st st':Tw.SS} {t:Tw.T} {e:Tw.En} {tv ev:Value} {r:Nat},Sol w bs st->Rep w 0 hi t tv->EnvAt w hi e ev->Tw.zav n t e st=some (r,st') ->
  Calls Tryz.prog 53 #[.pointer (some ⟨bs,0,none⟩),tv,ev] w (zd5 bs w r st')
def znv (n:Nat):Prop:=∀ {w:World} {bs hi bl:Nat} {st st':Tw.SS} {t:Tw.T} {e:Tw.En} {ev:Value} {r:Nat},Sol w bs st->Rep w 0 hi t (.iface 136 (.pointer (some ⟨bl,0,none⟩)))->EnvAt w hi e ev->Tw.defS n t e st=some (r,st') ->
  Calls Tryz.prog 105 #[.pointer (some ⟨bs,0,none⟩),.pointer (some ⟨bl,0,none⟩),ev] w (zd5 bs w r st')
theorem yaa {w:World} {bs b:Nat} {st:Tw.SS} (h:Sol w bs st) {hi:Nat} {e:Tw.En} {ev:Value} (he:EnvAt w hi e ev) :
  Calls Tryz.prog 53 #[.pointer (some ⟨bs,0,none⟩),.iface 191 (.pointer (some ⟨b,0,none⟩)),ev] w (zd5 bs w 0 st):=by
 have HH:Hid (Sol w bs st):=h
 obtain ⟨a,rfl⟩:=he.ptr
 have q0:=zgh
 have q1:=zms
 have q2:=zov
 have q3:=zjz
 have q4:=zow
 have q5:=zox
 have q6:=zln
 have q7:=zr6
 have q8:=ze1
 have q9:=zfx
 clear h he
 go_enter Tryz.func53,Tryz.ntmps53
 go_wp2_with fail
 go_ret
 exact ⟨rfl,SK.refl _ _,HH.out⟩
theorem zuf {w:World} {bs b:Nat} {st:Tw.SS} (h:Sol w bs st) {hi:Nat} {e:Tw.En} {ev:Value} (he:EnvAt w hi e ev) :
  Calls Tryz.prog 53 #[.pointer (some ⟨bs,0,none⟩),.iface 195 (.pointer (some ⟨b,0,none⟩)),ev] w (zd5 bs w 1 st):=by
 have HH:Hid (Sol w bs st):=h
 obtain ⟨a,rfl⟩:=he.ptr
 have q0:=zeu
 have q1:=zhd
 have q2:=zlo
 have q3:=zir
 have q4:=zlp
 have q5:=zlq
 have q6:=zjr
 have q7:=zoy
 have q8:=zdu
 have q9:=zem
 clear h he
 go_enter Tryz.func53,Tryz.ntmps53
 go_wp2_with fail
 go_ret
 exact ⟨rfl,SK.refl _ _,HH.out⟩
theorem ycd {n:Nat} (hD:znv n) {w:World} {bs hi b:Nat} {st st':Tw.SS} {e:Tw.En} {ev:Value} {x:List UInt8} {fr to r:Nat} (h:Sol w bs st)
  (hb:w.heap[b]? = some (.cells #[.int .i64 fr,.int .i64 to,ug x] 87 (0,0))) (he:EnvAt w hi e ev) (hf:Tw.zav (n+1) (.name fr to x) e st=some (r,st')) :
  Calls Tryz.prog 98 #[.pointer (some ⟨bs,0,none⟩),.pointer (some ⟨b,0,none⟩),ev] w (zd5 bs w r st'):=by
 have HH:Hid (Sol w bs st):=h
 have HE:Hid (EnvAt w hi e ev):=he
 obtain ⟨c0,c1,c2,_⟩:=zaf hb
 rw [Tw.zav] at hf
 obtain ⟨a,rfl⟩:=he.ptr
 clear h he hb c0 c1
 cases hl:e.look x with
 | none=>rw [hl] at hf; simp at hf
 | some m =>
 rw [hl] at hf
 have HL:Hid (e.look x=some m):=hl
 clear hl
 rcases m with r0 | ⟨t,o⟩
 ·simp only [zsI,zpI] at hf
  obtain ⟨rfl,rfl⟩:=hf
  go_enter Tryz.func98,Tryz.ntmps98
  go_wp2_with fail
  refine (zud HE.out x HL.out).mono ?_
  rintro e1 w1 ⟨hg,po,rfl⟩
  have G1:Hid (w.grownBy w1 none):=hg
  clear hg
  go_wp2_with fail
  go_ret
  exact ⟨rfl,SK.of_none (zae G1.out _),HH.out.grown (zae G1.out _)⟩
 ·have HF:Hid (Tw.defS n t o st=some (r,st')):=hf
  clear hf
  go_enter Tryz.func98,Tryz.ntmps98
  go_wp2_with fail
  refine (zud HE.out x HL.out).mono ?_
  rintro e1 w1 ⟨hg,bl,po,rfl,ho,hr⟩
  have G1:Hid (w.grownBy w1 none):=hg
  have HO:Hid (EnvAt w hi o (.pointer po)):=ho
  have HR:Hid (Rep w 0 hi t (.iface 136 (.pointer (some ⟨bl,0,none⟩)))):=hr
  clear hg ho hr
  go_wp2_with fail
  refine (hD (HH.out.grown (zae G1.out _)) (HR.out.grown (zae G1.out _) (znL _) (znL _)) (HO.out.grown (zae G1.out _)) HF.out).mono ?_
  rintro e2 w2 ⟨rfl,hk,hs⟩
  have X:Hid (SK bs w w2/\Sol w2 bs st'):=⟨(SK.of_none (zae G1.out _)).trans hk,hs⟩
  clear hk hs
  go_wp2_with fail
  go_ret
  exact ⟨rfl,X.out⟩
theorem zwq {w:World} {bs b:Nat} {st':Tw.SS} {r:Nat} {hi:Nat} {e:Tw.En} {ev:Value} (he:EnvAt w hi e ev) (hX:Calls Tryz.prog 98 #[.pointer (some ⟨bs,0,none⟩),.pointer (some ⟨b,0,none⟩),ev] w (zd5 bs w r st')) :
  Calls Tryz.prog 53 #[.pointer (some ⟨bs,0,none⟩),.iface 83 (.pointer (some ⟨b,0,none⟩)),ev] w (zd5 bs w r st'):=by
 obtain ⟨a,rfl⟩:=he.ptr
 have HX:=bV hX
 have q0:=zfh
 have q1:=zrn
 have q2:=zs4
 have q3:=zjq
 have q4:=zmq
 have q5:=zmr
 have q6:=zjy
 have q7:=zp3
 have q8:=zgf
 have q9:=zgg
 clear he hX
 go_enter Tryz.func53,Tryz.ntmps53
 go_wp2_with fail
 refine (uh HX).mono ?_
 rintro e1 w1 ⟨rfl,hk,hs⟩
 have X:Hid (SK bs w w1/\Sol w1 bs st'):=⟨hk,hs⟩
 clear hk hs
 go_wp2_with fail
 go_ret
 exact ⟨rfl,X.out⟩
theorem zwr {w:World} {bs b:Nat} {st':Tw.SS} {r:Nat} {hi:Nat} {e:Tw.En} {ev:Value} (he:EnvAt w hi e ev) (hX:Calls Tryz.prog 100 #[.pointer (some ⟨bs,0,none⟩),.pointer (some ⟨b,0,none⟩),ev] w (zd5 bs w r st')) :
  Calls Tryz.prog 53 #[.pointer (some ⟨bs,0,none⟩),.iface 209 (.pointer (some ⟨b,0,none⟩)),ev] w (zd5 bs w r st'):=by
 obtain ⟨a,rfl⟩:=he.ptr
 have HX:=bV hX
 have q0:=zfk
 have q1:=zid
 have q2:=zi7
 have q3:=zey
 have q4:=zgx
 have q5:=zi8
 have q6:=zj5
 have q7:=zp6
 have q8:=zeg
 have q9:=zfb
 clear he hX
 go_enter Tryz.func53,Tryz.ntmps53
 go_wp2_with fail
 refine (uh HX).mono ?_
 rintro e1 w1 ⟨rfl,hk,hs⟩
 have X:Hid (SK bs w w1/\Sol w1 bs st'):=⟨hk,hs⟩
 clear hk hs
 go_wp2_with fail
 go_ret
 exact ⟨rfl,X.out⟩
theorem zs5 {w:World} {bs b:Nat} {st':Tw.SS} {r:Nat} {hi:Nat} {e:Tw.En} {ev:Value} (he:EnvAt w hi e ev) (hX:Calls Tryz.prog 101 #[.pointer (some ⟨bs,0,none⟩),.pointer (some ⟨b,0,none⟩),ev] w (zd5 bs w r st')) :
  Calls Tryz.prog 53 #[.pointer (some ⟨bs,0,none⟩),.iface 211 (.pointer (some ⟨b,0,none⟩)),ev] w (zd5 bs w r st'):=by
 obtain ⟨a,rfl⟩:=he.ptr
 have HX:=bV hX
 have q0:=zeh
 have q1:=zgs
 have q2:=zhf
 have q3:=zec
 have q4:=zfl
 have q5:=zhg
 have q6:=zfz
 have q7:=zmw
 have q8:=zdi
 have q9:=zd8
 clear he hX
 go_enter Tryz.func53,Tryz.ntmps53
 go_wp2_with fail
 refine (uh HX).mono ?_
 rintro e1 w1 ⟨rfl,hk,hs⟩
 have X:Hid (SK bs w w1/\Sol w1 bs st'):=⟨hk,hs⟩
 clear hk hs
 go_wp2_with fail
 go_ret
 exact ⟨rfl,X.out⟩
theorem yce {w:World} {bs b:Nat} {st':Tw.SS} {r:Nat} {hi:Nat} {e:Tw.En} {ev:Value} (he:EnvAt w hi e ev) (hX:Calls Tryz.prog 102 #[.pointer (some ⟨bs,0,none⟩),.pointer (some ⟨b,0,none⟩),ev] w (zd5 bs w r st')) :
  Calls Tryz.prog 53 #[.pointer (some ⟨bs,0,none⟩),.iface 213 (.pointer (some ⟨b,0,none⟩)),ev] w (zd5 bs w r st'):=by
 obtain ⟨a,rfl⟩:=he.ptr
 have HX:=bV hX
 have q0:=zhh
 have q1:=zj6
 have q2:=zl3
 have q3:=zf9
 have q4:=zi9
 have q5:=zl4
 have q6:=zja
 have q7:=zp7
 have q8:=zf0
 have q9:=zg5
 clear he hX
 go_enter Tryz.func53,Tryz.ntmps53
 go_wp2_with fail
 refine (uh HX).mono ?_
 rintro e1 w1 ⟨rfl,hk,hs⟩
 have X:Hid (SK bs w w1/\Sol w1 bs st'):=⟨hk,hs⟩
 clear hk hs
 go_wp2_with fail
 go_ret
 exact ⟨rfl,X.out⟩
theorem zws {w:World} {bs b:Nat} {st':Tw.SS} {r:Nat} {hi:Nat} {e:Tw.En} {ev:Value} (he:EnvAt w hi e ev) (hX:Calls Tryz.prog 99 #[.pointer (some ⟨bs,0,none⟩),.pointer (some ⟨b,0,none⟩)] w (zd5 bs w r st')) :
  Calls Tryz.prog 53 #[.pointer (some ⟨bs,0,none⟩),.iface 199 (.pointer (some ⟨b,0,none⟩)),ev] w (zd5 bs w r st'):=by
 obtain ⟨a,rfl⟩:=he.ptr
 have HX:=bV hX
 have q0:=zfi
 have q1:=zib
 have q2:=zi5
 have q3:=zjs
 have q4:=zmt
 have q5:=zmu
 have q6:=zj1
 have q7:=zp4
 have q8:=zee
 have q9:=ze9
 clear he hX
 go_enter Tryz.func53,Tryz.ntmps53
 go_wp2_with fail
 refine (uh HX).mono ?_
 rintro e1 w1 ⟨rfl,hk,hs⟩
 have X:Hid (SK bs w w1/\Sol w1 bs st'):=⟨hk,hs⟩
 clear hk hs
 go_wp2_with fail
 go_ret
 exact ⟨rfl,X.out⟩
open Go.RowKit
theorem ycf {w:World} {bs b:Nat} {st st':Tw.SS} {sec:Bool} {fr to n r:Nat} {e:Tw.En} (h:Sol w bs st)
  (hb:w.heap[b]? = some (.cells #[.int .i64 fr,.int .i64 to,.bool sec] 201 (0,0))) (hf:Tw.zav (n+1) (.side fr to sec) e st=some (r,st')) :
  Calls Tryz.prog 99 #[.pointer (some ⟨bs,0,none⟩),.pointer (some ⟨b,0,none⟩)] w (zd5 bs w r st'):=by
 rw [Tw.zav] at hf
 obtain ⟨⟨a,st1⟩,h1,hf1⟩:=zbE.1 hf
 obtain ⟨⟨c,st2⟩,h2,hf2⟩:=zbE.1 hf1
 obtain ⟨⟨p,st3⟩,h3,h4⟩:=zbE.1 hf2
 simp only at h2 h3 h4
 have HH:Hid (Sol w bs st):=h
 have H1:Hid (Tw.addS 0 0 0 st=some (a,st1)):=h1
 have H2:Hid (Tw.addS 0 0 0 st1=some (c,st2)):=h2
 have H3:Hid (Tw.addS 4 a c st2=some (p,st3)):=h3
 have HB:Hid (w.heap[b]? = some (.cells #[.int .i64 fr,.int .i64 to,.bool sec] 201 (0,0))):=hb
 have H4:=bV h4
 clear hf hf1 hf2 h1 h2 h3 h4 h hb
 have keep:∀(w w':World) (st:Tw.SS),Sol w bs st->SK bs w w'->w.heap[b]? = some (.cells #[.int .i64 fr,.int .i64 to,.bool sec] 201 (0,0))->w'.heap[b]? = some (.cells #[.int .i64 fr,.int .i64 to,.bool sec] 201 (0,0)):=by
  rintro w w' st ⟨g,cap,cur,hR⟩ hk hb
  refine hk.at hb (fun e => ?_) (fun cur m e => ?_)
  ·subst e; rw [hR.solver] at hb; simp at hb
  ·simp at e
 have KE:=bV keep
 clear keep
 cases sec
 all_goals
  simp only [Bool.false_eq_true,if_false,if_true] at H4
  go_enter Tryz.func99,Tryz.ntmps99
  go_wp2_with fail
  refine (ziq HH.out H1.out).mono ?_
  rintro e1 w1 ⟨rfl,hk,hs⟩
  have S1:Hid (Sol w1 bs st1):=hs
  have K1:Hid (SK bs w w1):=hk
  have B1:Hid (w1.heap[b]? = _):=uh KE _ _ _ HH.out hk HB.out
  clear hk hs
  go_wp2_with fail
  refine (ziq S1.out H2.out).mono ?_
  rintro e1 w2 ⟨rfl,hk,hs⟩
  have S2:Hid (Sol w2 bs st2):=hs
  have K2:Hid (SK bs w w2):=K1.out.trans hk
  have B2:Hid (w2.heap[b]? = _):=uh KE _ _ _ S1.out hk B1.out
  obtain ⟨_,_,d2,_⟩:=zaf B2.out
  clear hk hs
  go_wp2_with fail
  refine (zk3 S2.out 4 a c H3.out).mono ?_
  rintro e1 w3 ⟨rfl,hk,hs⟩
  have S3:Hid (Sol w3 bs st3):=hs
  have K3:Hid (SK bs w w3):=K2.out.trans hk
  clear hk hs
  go_wp2_with fail
  refine (zk3 S3.out 3 p _ (uh H4)).mono ?_
  rintro e1 w4 ⟨rfl,hk,hs⟩
  have X:Hid (SK bs w w4/\Sol w4 bs st'):=⟨K3.out.trans hk,hs⟩
  clear hk hs
  go_wp2_with fail
  go_ret
  exact ⟨rfl,X.out⟩
open Go.RowKit
theorem zdc {bs b:Nat} {w w':World} {st:Tw.SS} {cur:Array Value} {ty:TypeId} {x:Int} (hS:Sol w bs st) (hk:SK bs w w') (hb:w.heap[b]? = some (.cells cur ty (0,0))) (h1:cur[0]? = some (.int .i64 x)) (h2:ty≠334):w'.heap[b]? = some (.cells cur ty (0,0)):=by
 obtain ⟨g,cap,cur0,hR⟩:=hS
 refine hk.at hb (fun e => ?_) (fun cur m e => ?_)
 ·subst e
  rw [hR.solver] at hb
  simp at hb
  rw [<-hb.1] at h1
  simp at h1
 ·simp at e
  exact h2 e.2.1
theorem ycg {n:Nat} (hI:zc4 n) {w:World} {bs hi b:Nat} {st st':Tw.SS} {e:Tw.En} {ev:Value} {f:Tw.T} {a:Tw.T} {v1:Value} {v2:Value} {fr to r:Nat} (h:Sol w bs st)
  (hb:w.heap[b]? = some (.cells #[.int .i64 fr,.int .i64 to,v1,v2] 319 (0,0))) (r0:Rep w 0 hi f v1) (r1:Rep w 0 hi a v2) (he:EnvAt w hi e ev) (hf:Tw.zav (n+1) (.call fr to f a) e st=some (r,st')) :
  Calls Tryz.prog 100 #[.pointer (some ⟨bs,0,none⟩),.pointer (some ⟨b,0,none⟩),ev] w (zd5 bs w r st'):=by
 rw [Tw.zav] at hf
 obtain ⟨⟨x1,st1⟩,h1,hf1⟩:=zbE.1 hf
 obtain ⟨⟨x2,st2⟩,h2,hf2⟩:=zbE.1 hf1
 obtain ⟨⟨x3,st3⟩,h3,hf3⟩:=zbE.1 hf2
 obtain ⟨⟨x4,st4⟩,h4,hf4⟩:=zbE.1 hf3
 obtain ⟨st5,h5,hf5⟩:=zbE.1 hf4
 simp only at h2 h3 h4 h5
 simp only [zsI,zpI] at hf5
 obtain ⟨rfl,rfl⟩:=hf5
 have S0:Hid (Sol w bs st):=h
 have E0:Hid (EnvAt w hi e ev):=he
 have B0:Hid (w.heap[b]? = some (.cells #[.int .i64 fr,.int .i64 to,v1,v2] 319 (0,0))):=hb
 have R0f:Hid (Rep w 0 hi f v1):=r0
 have R0a:Hid (Rep w 0 hi a v2):=r1
 have H1:=bV h1
 have H2:=bV h2
 have H3:=bV h3
 have H4:=bV h4
 have H5:=bV h5
 obtain ⟨T0,n0,rfl⟩:=r0.iface
 obtain ⟨T1,n1,rfl⟩:=r1.iface
 obtain ⟨ea,rfl⟩:=he.ptr
 have K0:Hid (SK bs w w):=SK.refl _ _
 have c0:w.cell? ⟨b,2,none⟩=some (.iface T0 (.pointer (some ⟨n0,0,none⟩))):=zcR B0.out
 have c1:w.cell? ⟨b,3,none⟩=some (.iface T1 (.pointer (some ⟨n1,0,none⟩))):=zcR B0.out
 clear h he hb r0 r1 hf h1 h2 h3 h4 h5 hf1 hf2 hf3 hf4
 go_enter Tryz.func100,Tryz.ntmps100
 go_wp2_with fail
 refine (hI S0.out R0f.out E0.out (uh H1)).mono ?_
 rintro e1 w1 ⟨rfl,hk,hs⟩
 have S1:Hid (Sol w1 bs st1):=hs
 have K1:Hid (SK bs w w1):=K0.out.trans hk
 have E1:Hid (EnvAt w1 hi e (.pointer ea)):=EnvAt.sk S0.out hk E0.out
 have B1:=bV (zdc S0.out hk B0.out rfl (by decide))
 have R1f:=bV (Rep.sk S0.out hk R0f.out)
 have R1a:=bV (Rep.sk S0.out hk R0a.out)
 clear c0 c1
 have c0:w1.cell? ⟨b,2,none⟩=some (.iface T0 (.pointer (some ⟨n0,0,none⟩))):=zcR B1.out
 have c1:w1.cell? ⟨b,3,none⟩=some (.iface T1 (.pointer (some ⟨n1,0,none⟩))):=zcR B1.out
 clear hk hs
 go_wp2_with fail
 refine (hI S1.out R1a.out E1.out (uh H2)).mono ?_
 rintro e1 w2 ⟨rfl,hk,hs⟩
 have S2:Hid (Sol w2 bs st2):=hs
 have K2:Hid (SK bs w w2):=K1.out.trans hk
 have E2:Hid (EnvAt w2 hi e (.pointer ea)):=EnvAt.sk S1.out hk E1.out
 have B2:=bV (zdc S1.out hk B1.out rfl (by decide))
 have R2f:=bV (Rep.sk S1.out hk R1f.out)
 have R2a:=bV (Rep.sk S1.out hk R1a.out)
 clear c0 c1
 have c0:w2.cell? ⟨b,2,none⟩=some (.iface T0 (.pointer (some ⟨n0,0,none⟩))):=zcR B2.out
 have c1:w2.cell? ⟨b,3,none⟩=some (.iface T1 (.pointer (some ⟨n1,0,none⟩))):=zcR B2.out
 clear hk hs
 go_wp2_with fail
 refine (ziq S2.out (uh H3)).mono ?_
 rintro e1 w3 ⟨rfl,hk,hs⟩
 have S3:Hid (Sol w3 bs st3):=hs
 have K3:Hid (SK bs w w3):=K2.out.trans hk
 have E3:Hid (EnvAt w3 hi e (.pointer ea)):=EnvAt.sk S2.out hk E2.out
 have B3:=bV (zdc S2.out hk B2.out rfl (by decide))
 have R3f:=bV (Rep.sk S2.out hk R2f.out)
 have R3a:=bV (Rep.sk S2.out hk R2a.out)
 clear c0 c1
 have c0:w3.cell? ⟨b,2,none⟩=some (.iface T0 (.pointer (some ⟨n0,0,none⟩))):=zcR B3.out
 have c1:w3.cell? ⟨b,3,none⟩=some (.iface T1 (.pointer (some ⟨n1,0,none⟩))):=zcR B3.out
 clear hk hs
 go_wp2_with fail
 refine (zk3 S3.out 3 x2 x3 (uh H4)).mono ?_
 rintro e1 w4 ⟨rfl,hk,hs⟩
 have S4:Hid (Sol w4 bs st4):=hs
 have K4:Hid (SK bs w w4):=K3.out.trans hk
 have E4:Hid (EnvAt w4 hi e (.pointer ea)):=EnvAt.sk S3.out hk E3.out
 have B4:=bV (zdc S3.out hk B3.out rfl (by decide))
 have R4f:=bV (Rep.sk S3.out hk R3f.out)
 have R4a:=bV (Rep.sk S3.out hk R3a.out)
 clear c0 c1
 have c0:w4.cell? ⟨b,2,none⟩=some (.iface T0 (.pointer (some ⟨n0,0,none⟩))):=zcR B4.out
 have c1:w4.cell? ⟨b,3,none⟩=some (.iface T1 (.pointer (some ⟨n1,0,none⟩))):=zcR B4.out
 clear hk hs
 go_wp2_with fail
 refine (zg4 S4.out (uh H5)).mono ?_
 rintro e1 w5 ⟨rfl,hk,hs⟩
 have S5:Hid (Sol w5 bs st5):=hs
 have K5:Hid (SK bs w w5):=K4.out.trans hk
 have E5:Hid (EnvAt w5 hi e (.pointer ea)):=EnvAt.sk S4.out hk E4.out
 have B5:=bV (zdc S4.out hk B4.out rfl (by decide))
 have R5f:=bV (Rep.sk S4.out hk R4f.out)
 have R5a:=bV (Rep.sk S4.out hk R4a.out)
 clear c0 c1
 have c0:w5.cell? ⟨b,2,none⟩=some (.iface T0 (.pointer (some ⟨n0,0,none⟩))):=zcR B5.out
 have c1:w5.cell? ⟨b,3,none⟩=some (.iface T1 (.pointer (some ⟨n1,0,none⟩))):=zcR B5.out
 clear hk hs
 go_wp2_with fail
 go_ret
 exact ⟨rfl,K5.out,S5.out⟩
theorem zwt {n:Nat} (hI:zc4 n) {w:World} {bs hi b:Nat} {st st':Tw.SS} {e:Tw.En} {ev:Value} {c:Tw.T} {t:Tw.T} {f:Tw.T} {v1:Value} {v2:Value} {v3:Value} {fr to r:Nat} (h:Sol w bs st)
  (hb:w.heap[b]? = some (.cells #[.int .i64 fr,.int .i64 to,v1,v2,v3] 326 (0,0))) (r0:Rep w 0 hi c v1) (r1:Rep w 0 hi t v2) (r2:Rep w 0 hi f v3) (he:EnvAt w hi e ev) (hf:Tw.zav (n+1) (.cond fr to c t f) e st=some (r,st')) :
  Calls Tryz.prog 102 #[.pointer (some ⟨bs,0,none⟩),.pointer (some ⟨b,0,none⟩),ev] w (zd5 bs w r st'):=by
 rw [Tw.zav] at hf
 obtain ⟨⟨x1,st1⟩,h1,hf1⟩:=zbE.1 hf
 obtain ⟨st2,h2,hf2⟩:=zbE.1 hf1
 obtain ⟨⟨x3,st3⟩,h3,hf3⟩:=zbE.1 hf2
 obtain ⟨⟨x4,st4⟩,h4,hf4⟩:=zbE.1 hf3
 obtain ⟨st5,h5,hf5⟩:=zbE.1 hf4
 simp only at h2 h3 h4 h5
 simp only [zsI,zpI] at hf5
 obtain ⟨rfl,rfl⟩:=hf5
 have S0:Hid (Sol w bs st):=h
 have E0:Hid (EnvAt w hi e ev):=he
 have B0:Hid (w.heap[b]? = some (.cells #[.int .i64 fr,.int .i64 to,v1,v2,v3] 326 (0,0))):=hb
 have R0c:Hid (Rep w 0 hi c v1):=r0
 have R0t:Hid (Rep w 0 hi t v2):=r1
 have R0f:Hid (Rep w 0 hi f v3):=r2
 have H1:=bV h1
 have H2:=bV h2
 have H3:=bV h3
 have H4:=bV h4
 have H5:=bV h5
 obtain ⟨T0,n0,rfl⟩:=r0.iface
 obtain ⟨T1,n1,rfl⟩:=r1.iface
 obtain ⟨T2,n2,rfl⟩:=r2.iface
 obtain ⟨ea,rfl⟩:=he.ptr
 have K0:Hid (SK bs w w):=SK.refl _ _
 have c0:w.cell? ⟨b,2,none⟩=some (.iface T0 (.pointer (some ⟨n0,0,none⟩))):=zcR B0.out
 have c1:w.cell? ⟨b,3,none⟩=some (.iface T1 (.pointer (some ⟨n1,0,none⟩))):=zcR B0.out
 have c2:w.cell? ⟨b,4,none⟩=some (.iface T2 (.pointer (some ⟨n2,0,none⟩))):=zcR B0.out
 clear h he hb r0 r1 r2 hf h1 h2 h3 h4 h5 hf1 hf2 hf3 hf4
 go_enter Tryz.func102,Tryz.ntmps102
 go_wp2_with fail
 refine (hI S0.out R0c.out E0.out (uh H1)).mono ?_
 rintro e1 w1 ⟨rfl,hk,hs⟩
 have S1:Hid (Sol w1 bs st1):=hs
 have K1:Hid (SK bs w w1):=K0.out.trans hk
 have E1:Hid (EnvAt w1 hi e (.pointer ea)):=EnvAt.sk S0.out hk E0.out
 have B1:=bV (zdc S0.out hk B0.out rfl (by decide))
 have R1c:=bV (Rep.sk S0.out hk R0c.out)
 have R1t:=bV (Rep.sk S0.out hk R0t.out)
 have R1f:=bV (Rep.sk S0.out hk R0f.out)
 clear c0 c1 c2
 have c0:w1.cell? ⟨b,2,none⟩=some (.iface T0 (.pointer (some ⟨n0,0,none⟩))):=zcR B1.out
 have c1:w1.cell? ⟨b,3,none⟩=some (.iface T1 (.pointer (some ⟨n1,0,none⟩))):=zcR B1.out
 have c2:w1.cell? ⟨b,4,none⟩=some (.iface T2 (.pointer (some ⟨n2,0,none⟩))):=zcR B1.out
 clear hk hs
 go_wp2_with fail
 refine (zg4 S1.out (uh H2)).mono ?_
 rintro e1 w2 ⟨rfl,hk,hs⟩
 have S2:Hid (Sol w2 bs st2):=hs
 have K2:Hid (SK bs w w2):=K1.out.trans hk
 have E2:Hid (EnvAt w2 hi e (.pointer ea)):=EnvAt.sk S1.out hk E1.out
 have B2:=bV (zdc S1.out hk B1.out rfl (by decide))
 have R2c:=bV (Rep.sk S1.out hk R1c.out)
 have R2t:=bV (Rep.sk S1.out hk R1t.out)
 have R2f:=bV (Rep.sk S1.out hk R1f.out)
 clear c0 c1 c2
 have c0:w2.cell? ⟨b,2,none⟩=some (.iface T0 (.pointer (some ⟨n0,0,none⟩))):=zcR B2.out
 have c1:w2.cell? ⟨b,3,none⟩=some (.iface T1 (.pointer (some ⟨n1,0,none⟩))):=zcR B2.out
 have c2:w2.cell? ⟨b,4,none⟩=some (.iface T2 (.pointer (some ⟨n2,0,none⟩))):=zcR B2.out
 clear hk hs
 go_wp2_with fail
 refine (hI S2.out R2t.out E2.out (uh H3)).mono ?_
 rintro e1 w3 ⟨rfl,hk,hs⟩
 have S3:Hid (Sol w3 bs st3):=hs
 have K3:Hid (SK bs w w3):=K2.out.trans hk
 have E3:Hid (EnvAt w3 hi e (.pointer ea)):=EnvAt.sk S2.out hk E2.out
 have B3:=bV (zdc S2.out hk B2.out rfl (by decide))
 have R3c:=bV (Rep.sk S2.out hk R2c.out)
 have R3t:=bV (Rep.sk S2.out hk R2t.out)
 have R3f:=bV (Rep.sk S2.out hk R2f.out)
 clear c0 c1 c2
 have c0:w3.cell? ⟨b,2,none⟩=some (.iface T0 (.pointer (some ⟨n0,0,none⟩))):=zcR B3.out
 have c1:w3.cell? ⟨b,3,none⟩=some (.iface T1 (.pointer (some ⟨n1,0,none⟩))):=zcR B3.out
 have c2:w3.cell? ⟨b,4,none⟩=some (.iface T2 (.pointer (some ⟨n2,0,none⟩))):=zcR B3.out
 clear hk hs
 go_wp2_with fail
 refine (hI S3.out R3f.out E3.out (uh H4)).mono ?_
 rintro e1 w4 ⟨rfl,hk,hs⟩
 have S4:Hid (Sol w4 bs st4):=hs
 have K4:Hid (SK bs w w4):=K3.out.trans hk
 have E4:Hid (EnvAt w4 hi e (.pointer ea)):=EnvAt.sk S3.out hk E3.out
 have B4:=bV (zdc S3.out hk B3.out rfl (by decide))
 have R4c:=bV (Rep.sk S3.out hk R3c.out)
 have R4t:=bV (Rep.sk S3.out hk R3t.out)
 have R4f:=bV (Rep.sk S3.out hk R3f.out)
 clear c0 c1 c2
 have c0:w4.cell? ⟨b,2,none⟩=some (.iface T0 (.pointer (some ⟨n0,0,none⟩))):=zcR B4.out
 have c1:w4.cell? ⟨b,3,none⟩=some (.iface T1 (.pointer (some ⟨n1,0,none⟩))):=zcR B4.out
 have c2:w4.cell? ⟨b,4,none⟩=some (.iface T2 (.pointer (some ⟨n2,0,none⟩))):=zcR B4.out
 clear hk hs
 go_wp2_with fail
 refine (zg4 S4.out (uh H5)).mono ?_
 rintro e1 w5 ⟨rfl,hk,hs⟩
 have S5:Hid (Sol w5 bs st5):=hs
 have K5:Hid (SK bs w w5):=K4.out.trans hk
 have E5:Hid (EnvAt w5 hi e (.pointer ea)):=EnvAt.sk S4.out hk E4.out
 have B5:=bV (zdc S4.out hk B4.out rfl (by decide))
 have R5c:=bV (Rep.sk S4.out hk R4c.out)
 have R5t:=bV (Rep.sk S4.out hk R4t.out)
 have R5f:=bV (Rep.sk S4.out hk R4f.out)
 clear c0 c1 c2
 have c0:w5.cell? ⟨b,2,none⟩=some (.iface T0 (.pointer (some ⟨n0,0,none⟩))):=zcR B5.out
 have c1:w5.cell? ⟨b,3,none⟩=some (.iface T1 (.pointer (some ⟨n1,0,none⟩))):=zcR B5.out
 have c2:w5.cell? ⟨b,4,none⟩=some (.iface T2 (.pointer (some ⟨n2,0,none⟩))):=zcR B5.out
 clear hk hs
 go_wp2_with fail
 go_ret
 exact ⟨rfl,K5.out,S5.out⟩
open Go.RowKit
theorem zn5 {n:Nat} (hI:zc4 n) {w:World} {bs hi b:Nat} {st st':Tw.SS} {e:Tw.En} {ev:Value} {l:Tw.T} {q:Tw.T} {v1:Value} {v2:Value} {sg:Int} {fr to r:Nat} (h:Sol w bs st)
  (hb:w.heap[b]? = some (.cells #[.int .i64 fr,.int .i64 to,.int .i64 sg,v1,v2] 322 (0,0))) (r0:Rep w 0 hi l v1) (r1:Rep w 0 hi q v2) (he:EnvAt w hi e ev) (hf:Tw.zav (n+1) (.binary fr to sg l q) e st=some (r,st')) :
  Calls Tryz.prog 101 #[.pointer (some ⟨bs,0,none⟩),.pointer (some ⟨b,0,none⟩),ev] w (zd5 bs w r st'):=by
 rw [Tw.zav] at hf
 obtain ⟨⟨x1,st1⟩,h1,hf1⟩:=zbE.1 hf
 obtain ⟨st2,h2,hf2⟩:=zbE.1 hf1
 obtain ⟨⟨x3,st3⟩,h3,hf3⟩:=zbE.1 hf2
 obtain ⟨st4,h4,hf4⟩:=zbE.1 hf3
 simp only at h2 h3 h4
 simp only [zsI,zpI] at hf4
 obtain ⟨hr,rfl⟩:=hf4
 have HR:=bV hr
 clear hr
 have S0:Hid (Sol w bs st):=h
 have E0:Hid (EnvAt w hi e ev):=he
 have B0:Hid (w.heap[b]? = some (.cells #[.int .i64 fr,.int .i64 to,.int .i64 sg,v1,v2] 322 (0,0))):=hb
 have R0l:Hid (Rep w 0 hi l v1):=r0
 have R0q:Hid (Rep w 0 hi q v2):=r1
 have H1:=bV h1
 have H2:=bV h2
 have H3:=bV h3
 have H4:=bV h4
 obtain ⟨T0,n0,rfl⟩:=r0.iface
 obtain ⟨T1,n1,rfl⟩:=r1.iface
 obtain ⟨ea,rfl⟩:=he.ptr
 have K0:Hid (SK bs w w):=SK.refl _ _
 have c0:w.cell? ⟨b,3,none⟩=some (.iface T0 (.pointer (some ⟨n0,0,none⟩))):=zcR B0.out
 have c1:w.cell? ⟨b,4,none⟩=some (.iface T1 (.pointer (some ⟨n1,0,none⟩))):=zcR B0.out
 have c9:w.cell? ⟨b,2,none⟩=some (.int .i64 sg):=zcR B0.out
 clear h he hb r0 r1 hf h1 h2 h3 h4 hf1 hf2 hf3
 go_enter Tryz.func101,Tryz.ntmps101
 go_wp2_with fail
 refine (hI S0.out R0l.out E0.out (uh H1)).mono ?_
 rintro e1 w1 ⟨rfl,hk,hs⟩
 have S1:Hid (Sol w1 bs st1):=hs
 have K1:Hid (SK bs w w1):=K0.out.trans hk
 have E1:Hid (EnvAt w1 hi e (.pointer ea)):=EnvAt.sk S0.out hk E0.out
 have B1:=bV (zdc S0.out hk B0.out rfl (by decide))
 have R1l:=bV (Rep.sk S0.out hk R0l.out)
 have R1q:=bV (Rep.sk S0.out hk R0q.out)
 clear c0 c1 c9
 have c0:w1.cell? ⟨b,3,none⟩=some (.iface T0 (.pointer (some ⟨n0,0,none⟩))):=zcR B1.out
 have c1:w1.cell? ⟨b,4,none⟩=some (.iface T1 (.pointer (some ⟨n1,0,none⟩))):=zcR B1.out
 have c9:w1.cell? ⟨b,2,none⟩=some (.int .i64 sg):=zcR B1.out
 clear hk hs
 go_wp2_with fail
 refine (zg4 S1.out (uh H2)).mono ?_
 rintro e1 w2 ⟨rfl,hk,hs⟩
 have S2:Hid (Sol w2 bs st2):=hs
 have K2:Hid (SK bs w w2):=K1.out.trans hk
 have E2:Hid (EnvAt w2 hi e (.pointer ea)):=EnvAt.sk S1.out hk E1.out
 have B2:=bV (zdc S1.out hk B1.out rfl (by decide))
 have R2l:=bV (Rep.sk S1.out hk R1l.out)
 have R2q:=bV (Rep.sk S1.out hk R1q.out)
 clear c0 c1 c9
 have c0:w2.cell? ⟨b,3,none⟩=some (.iface T0 (.pointer (some ⟨n0,0,none⟩))):=zcR B2.out
 have c1:w2.cell? ⟨b,4,none⟩=some (.iface T1 (.pointer (some ⟨n1,0,none⟩))):=zcR B2.out
 have c9:w2.cell? ⟨b,2,none⟩=some (.int .i64 sg):=zcR B2.out
 clear hk hs
 go_wp2_with fail
 refine (hI S2.out R2q.out E2.out (uh H3)).mono ?_
 rintro e1 w3 ⟨rfl,hk,hs⟩
 have S3:Hid (Sol w3 bs st3):=hs
 have K3:Hid (SK bs w w3):=K2.out.trans hk
 have E3:Hid (EnvAt w3 hi e (.pointer ea)):=EnvAt.sk S2.out hk E2.out
 have B3:=bV (zdc S2.out hk B2.out rfl (by decide))
 have R3l:=bV (Rep.sk S2.out hk R2l.out)
 have R3q:=bV (Rep.sk S2.out hk R2q.out)
 clear c0 c1 c9
 have c0:w3.cell? ⟨b,3,none⟩=some (.iface T0 (.pointer (some ⟨n0,0,none⟩))):=zcR B3.out
 have c1:w3.cell? ⟨b,4,none⟩=some (.iface T1 (.pointer (some ⟨n1,0,none⟩))):=zcR B3.out
 have c9:w3.cell? ⟨b,2,none⟩=some (.int .i64 sg):=zcR B3.out
 clear hk hs
 go_wp2_with fail
 refine (zg4 S3.out (uh H4)).mono ?_
 rintro e1 w4 ⟨rfl,hk,hs⟩
 have S4:Hid (Sol w4 bs st4):=hs
 have K4:Hid (SK bs w w4):=K3.out.trans hk
 have E4:Hid (EnvAt w4 hi e (.pointer ea)):=EnvAt.sk S3.out hk E3.out
 have B4:=bV (zdc S3.out hk B3.out rfl (by decide))
 have R4l:=bV (Rep.sk S3.out hk R3l.out)
 have R4q:=bV (Rep.sk S3.out hk R3q.out)
 clear c0 c1 c9
 have c0:w4.cell? ⟨b,3,none⟩=some (.iface T0 (.pointer (some ⟨n0,0,none⟩))):=zcR B4.out
 have c1:w4.cell? ⟨b,4,none⟩=some (.iface T1 (.pointer (some ⟨n1,0,none⟩))):=zcR B4.out
 have c9:w4.cell? ⟨b,2,none⟩=some (.int .i64 sg):=zcR B4.out
 clear hk hs
 cases b23:(sg==23)
 ·cases b15:(sg==15)
  ·go_wp2_with fail
   go_ret
   exact ⟨zdt (by have h1:=b23; have h2:=b15; simp at h1 h2; have hr:=uh HR; rw [if_neg (fun o=>o.elim h1 h2)] at hr; rw [<-hr]; rfl),K4.out,S4.out⟩
  ·go_wp2_with fail
   go_ret
   exact ⟨zdt (by have:=b15; simp at this; have hr:=uh HR; rw [if_pos (.inr this)] at hr; rw [<-hr]; rfl),K4.out,S4.out⟩
 ·go_wp2_with fail
  go_ret
  exact ⟨zdt (by have:=b23; simp at this; have hr:=uh HR; rw [if_pos (.inl this)] at hr; rw [<-hr]; rfl),K4.out,S4.out⟩
open Go.RowKit
theorem zro {n:Nat} (hI:zc4 n) {w:World} {bs hi b:Nat} {st st':Tw.SS} {e:Tw.En} {ev:Value} {i:Tw.T} {v1:Value} {fr to r:Nat} (h:Sol w bs st)
  (hb:w.heap[b]? = some (.cells #[.int .i64 fr,.int .i64 to,v1] 206 (0,0))) (r0:Rep w 0 hi i v1) (he:EnvAt w hi e ev) (hf:Tw.zav (n+1) (.bracket fr to i) e st=some (r,st')) :
  Calls Tryz.prog 53 #[.pointer (some ⟨bs,0,none⟩),.iface 204 (.pointer (some ⟨b,0,none⟩)),ev] w (zd5 bs w r st'):=by
 rw [Tw.zav] at hf
 have S0:Hid (Sol w bs st):=h
 have E0:Hid (EnvAt w hi e ev):=he
 have R0:Hid (Rep w 0 hi i v1):=r0
 have H1:=bV hf
 obtain ⟨T0,n0,rfl⟩:=r0.iface
 obtain ⟨ea,rfl⟩:=he.ptr
 obtain ⟨_,_,c2,_⟩:=zaf hb
 have q0:=zd2
 have q1:=zfy
 have q2:=zgp
 have q3:=zdv
 have q4:=zgq
 have q5:=zjt
 have q6:=zhw
 have q7:=zlr
 have q8:=zc6
 have q9:=zdn
 clear h he hb r0 hf
 go_enter Tryz.func53,Tryz.ntmps53
 go_wp2_with fail
 refine (hI S0.out R0.out E0.out (uh H1)).mono ?_
 rintro e1 w1 ⟨rfl,hk,hs⟩
 have X:Hid (SK bs w w1/\Sol w1 bs st'):=⟨hk,hs⟩
 clear hk hs
 go_wp2_with fail
 go_ret
 exact ⟨rfl,X.out⟩
theorem zwu {n:Nat} (hI:zc4 n) {w:World} {bs hi b:Nat} {st st':Tw.SS} {e:Tw.En} {ev:Value} {l q:Tw.T} {v1 v2:Value} {fr to r:Nat} (h:Sol w bs st)
  (hb:w.heap[b]? = some (.cells #[.int .i64 fr,.int .i64 to,v1,v2] 229 (0,0))) (r0:Rep w 0 hi l v1) (r1:Rep w 0 hi q v2) (he:EnvAt w hi e ev) (hf:Tw.zav (n+1) (.pair fr to l q) e st=some (r,st')) :
  Calls Tryz.prog 53 #[.pointer (some ⟨bs,0,none⟩),.iface 207 (.pointer (some ⟨b,0,none⟩)),ev] w (zd5 bs w r st'):=by
 rw [Tw.zav] at hf
 obtain ⟨⟨x1,st1⟩,h1,hf1⟩:=zbE.1 hf
 obtain ⟨⟨x2,st2⟩,h2,h3⟩:=zbE.1 hf1
 simp only at h2 h3
 have S0:Hid (Sol w bs st):=h
 have E0:Hid (EnvAt w hi e ev):=he
 have B0:Hid (w.heap[b]? = some (.cells #[.int .i64 fr,.int .i64 to,v1,v2] 229 (0,0))):=hb
 have R0:Hid (Rep w 0 hi l v1):=r0
 have Q0:Hid (Rep w 0 hi q v2):=r1
 have H1:=bV h1
 have H2:=bV h2
 have H3:=bV h3
 obtain ⟨T0,n0,rfl⟩:=r0.iface
 obtain ⟨T1,n1,rfl⟩:=r1.iface
 obtain ⟨ea,rfl⟩:=he.ptr
 obtain ⟨_,_,c2,c3⟩:=zbl hb
 have q0:=zfj
 have q1:=zic
 have q2:=zi6
 have q3:=zgr
 have q4:=zgw
 have q5:=zmv
 have q6:=zj3
 have q7:=zp5
 have q8:=zef
 have q9:=zfa
 clear h he hb r0 r1 hf hf1 h1 h2 h3
 go_enter Tryz.func53,Tryz.ntmps53
 go_wp2_with fail
 refine (hI S0.out R0.out E0.out (uh H1)).mono ?_
 rintro e1 w1 ⟨rfl,hk,hs⟩
 have S1:Hid (Sol w1 bs st1):=hs
 have K1:Hid (SK bs w w1):=hk
 have E1:Hid (EnvAt w1 hi e (.pointer ea)):=EnvAt.sk S0.out hk E0.out
 have B1:=bV (zdc S0.out hk B0.out rfl (by decide))
 have Q1:=bV (Rep.sk S0.out hk Q0.out)
 clear c2 c3
 obtain ⟨_,_,c2,c3⟩:=zbl B1.out
 clear hk hs
 go_wp2_with fail
 refine (hI S1.out Q1.out E1.out (uh H2)).mono ?_
 rintro e1 w2 ⟨rfl,hk,hs⟩
 have S2:Hid (Sol w2 bs st2):=hs
 have K2:Hid (SK bs w w2):=K1.out.trans hk
 clear hk hs
 go_wp2_with fail
 refine (zk3 S2.out 4 x1 x2 (uh H3)).mono ?_
 rintro e1 w3 ⟨rfl,hk,hs⟩
 have X:Hid (SK bs w w3/\Sol w3 bs st'):=⟨K2.out.trans hk,hs⟩
 clear hk hs
 go_wp2_with fail
 go_ret
 exact ⟨rfl,X.out⟩
theorem yab {n:Nat} (hI:zc4 n) {w:World} {bs hi b:Nat} {st st':Tw.SS} {e:Tw.En} {ev:Value} {body:Tw.T} {v1:Value} {bn:List UInt8} {fr to bat r:Nat} (h:Sol w bs st)
    (hb:w.heap[b]? = some (.cells #[.int .i64 fr,.int .i64 to,ug bn,.int .i64 bat,v1] 235 (0,0))) (r0:Rep w 0 hi body v1) (he:EnvAt w hi e ev) (hf:Tw.zav (n+1) (.fn fr to bn bat body) e st=some (r,st')) :
    Calls Tryz.prog 53 #[.pointer (some ⟨bs,0,none⟩),.iface 215 (.pointer (some ⟨b,0,none⟩)),ev] w (zd5 bs w r st'):=by
  rw [Tw.zav] at hf
  obtain ⟨⟨x1,st1⟩,h1,hf1⟩:=zbE.1 hf
  obtain ⟨⟨x2,st2⟩,h2,h3⟩:=zbE.1 hf1
  simp only at h2 h3
  have S0:Hid (Sol w bs st):=h
  have E0:Hid (EnvAt w hi e ev):=he
  have B0:Hid (w.heap[b]? = some (.cells #[.int .i64 fr,.int .i64 to,ug bn,.int .i64 bat,v1] 235 (0,0))):=hb
  have R0:Hid (Rep w 0 hi body v1):=r0
  have H1:=bV h1
  have H2:=bV h2
  have H3:=bV h3
  obtain ⟨T0,n0,rfl⟩:=r0.iface
  obtain ⟨ea,rfl⟩:=he.ptr
  have q0:=zgi
  have q1:=zjb
  have q2:=zj7
  have q3:=zhi
  have q4:=zj8
  have q5:=zj9
  have q6:=zif
  have q7:=zn3
  have q8:=zdw
  have q9:=zei
  clear h he hb r0 hf hf1 h1 h2 h3
  go_enter Tryz.func53,Tryz.ntmps53
  go_wp2_with fail
  refine (ziq S0.out (uh H1)).mono ?_
  rintro e1 w1 ⟨rfl,hk,hs⟩
  have S1:Hid (Sol w1 bs st1):=hs
  have K1:Hid (SK bs w w1):=hk
  have E1:Hid (EnvAt w1 hi e (.pointer ea)):=EnvAt.sk S0.out hk E0.out
  have B1:=bV (zdc S0.out hk B0.out rfl (by decide))
  have R1:=bV (Rep.sk S0.out hk R0.out)
  obtain ⟨_,_,c2,_,c4⟩:=zcf B1.out
  clear hk hs q0 q1 q2 q3 q4 q5 q6 q7 q8 q9
  have D1:Hid (w1.grownBy w1.drew none):=zac (zab _)
  go_wp2_with fail
  go_region_held3 (fun W=>W.cell? ⟨b,2,none⟩=some (ug bn)/\W.cell? ⟨b,4,none⟩=some (.iface T0 (.pointer (some ⟨n0,0,none⟩)))) (go_keep)
    (first
      | (go_at_call 104; refine (zp2 e (.pointer ea) (E1.out.grown D1.out) bn x1 none none).mono ?_; rintro e1 w2 ⟨sb,rfl,hg,hsb⟩
         have G2:Hid (w1.grownBy w2 none):=zaa D1.out hg
         have N2:Hid (EnvAt w2 hi (.fix bn x1 e) (.pointer (some ⟨sb,0,none⟩))):=⟨sb,_,rfl,hsb,E1.out.grown (zaa D1.out hg)⟩
         have B2:=zcf ((zaa D1.out hg).block b (zgE.1 B1.out).1 (by simp) |>.trans B1.out)
         obtain ⟨_,_,d2,_,d4⟩:=B2
         clear hg hsb)
      | (go_at_call 53; refine (hI (S1.out.grown G2.out) (R1.out.grown G2.out (znL _) (znL _)) N2.out (uh H2)).mono ?_; rintro e1 w3 ⟨rfl,hk,hs⟩
         have S3:Hid (Sol w3 bs st2):=hs
         have K3:Hid (SK bs w w3):=K1.out.trans ((SK.of_none G2.out).trans hk)
         have B3:=zcf (zdc (S1.out.grown G2.out) hk (zbG G2.out B1.out) rfl (by decide))
         obtain ⟨_,_,g2,_,g4⟩:=B3
         clear hk hs))
  go_wp2_with fail
  refine (zk3 S3.out 3 x1 x2 (uh H3)).mono ?_
  rintro e1 w4 ⟨rfl,hk,hs⟩
  have X:Hid (SK bs w w4/\Sol w4 bs st'):=⟨K3.out.trans hk,hs⟩
  clear hk hs
  go_wp2_with fail
  go_ret
  exact ⟨rfl,X.out⟩
open Go.RowKit
theorem yac {n:Nat} (hI:zc4 n) {w:World} {bs hi b:Nat} {st st':Tw.SS} {e:Tw.En} {ev:Value} {d x:Tw.T} {v1 v2:Value} {bn:List UInt8} {fr to bat r:Nat} {rc:Bool} (h:Sol w bs st) (hrc:rc=false)
  (hb:w.heap[b]? = some (.cells #[.int .i64 fr,.int .i64 to,.bool rc,ug bn,.int .i64 bat,v1,v2] 140 (0,0))) (r0:Rep w 0 hi d v1) (he:EnvAt w hi e ev) (hf:Tw.defS (n+1) (.lett fr to rc bn bat d x) e st=some (r,st')) :
  Calls Tryz.prog 105 #[.pointer (some ⟨bs,0,none⟩),.pointer (some ⟨b,0,none⟩),ev] w (zd5 bs w r st'):=by
 subst hrc
 rw [Tw.defS] at hf
 have S0:Hid (Sol w bs st):=h
 have E0:Hid (EnvAt w hi e ev):=he
 have R0:Hid (Rep w 0 hi d v1):=r0
 have H1:=bV hf
 obtain ⟨T0,n0,rfl⟩:=r0.iface
 obtain ⟨ea,rfl⟩:=he.ptr
 obtain ⟨c2,_,c5,_⟩:=za1 hb
 clear h he hb r0 hf
 go_enter Tryz.func105,Tryz.ntmps105
 go_wp2_with fail
 refine (hI S0.out R0.out E0.out (uh H1)).mono ?_
 rintro e1 w1 ⟨rfl,hk,hs⟩
 have X:Hid (SK bs w w1/\Sol w1 bs st'):=⟨hk,hs⟩
 clear hk hs
 go_wp2_with fail
 go_ret
 exact ⟨rfl,X.out⟩
theorem yed {n:Nat} (hI:zc4 n) {w:World} {bs hi b:Nat} {st st':Tw.SS} {e:Tw.En} {ev:Value} {d x:Tw.T} {v1 v2:Value} {bn:List UInt8} {fr to bat r:Nat} {rc:Bool} (h:Sol w bs st) (hrc:rc=true)
    (hb:w.heap[b]? = some (.cells #[.int .i64 fr,.int .i64 to,.bool rc,ug bn,.int .i64 bat,v1,v2] 140 (0,0))) (r0:Rep w 0 hi d v1) (he:EnvAt w hi e ev) (hf:Tw.defS (n+1) (.lett fr to rc bn bat d x) e st=some (r,st')) :
    Calls Tryz.prog 105 #[.pointer (some ⟨bs,0,none⟩),.pointer (some ⟨b,0,none⟩),ev] w (zd5 bs w r st'):=by
  subst hrc
  rw [Tw.defS] at hf
  obtain ⟨⟨x1,st1⟩,h1,hf1⟩:=zbE.1 hf
  obtain ⟨⟨x2,st2⟩,h2,hf2⟩:=zbE.1 hf1
  obtain ⟨st3,h3,hf3⟩:=zbE.1 hf2
  simp only [zsI,zpI] at hf3
  obtain ⟨rfl,rfl⟩:=hf3
  simp only at h2 h3
  have S0:Hid (Sol w bs st):=h
  have E0:Hid (EnvAt w hi e ev):=he
  have B0:Hid (w.heap[b]? = some (.cells #[.int .i64 fr,.int .i64 to,.bool true,ug bn,.int .i64 bat,v1,v2] 140 (0,0))):=hb
  have R0:Hid (Rep w 0 hi d v1):=r0
  have H1:=bV h1
  have H2:=bV h2
  have H3:=bV h3
  obtain ⟨T0,n0,rfl⟩:=r0.iface
  obtain ⟨ea,rfl⟩:=he.ptr
  obtain ⟨c2,_,_,_⟩:=za1 hb
  clear h he hb r0 hf hf1 hf2 h1 h2 h3
  go_enter Tryz.func105,Tryz.ntmps105
  go_wp2_with fail
  refine (ziq S0.out (uh H1)).mono ?_
  rintro e1 w1 ⟨rfl,hk,hs⟩
  have S1:Hid (Sol w1 bs st1):=hs
  have K1:Hid (SK bs w w1):=hk
  have E1:Hid (EnvAt w1 hi e (.pointer ea)):=EnvAt.sk S0.out hk E0.out
  have B1:=bV (zdc S0.out hk B0.out rfl (by decide))
  have R1:=bV (Rep.sk S0.out hk R0.out)
  clear c2
  obtain ⟨_,c3,c5,_⟩:=za1 B1.out
  clear hk hs
  have D1:Hid (w1.grownBy w1.drew none):=zac (zab _)
  go_wp2_with fail
  go_region_held3 (fun W=>W.cell? ⟨b,3,none⟩=some (ug bn)/\W.cell? ⟨b,5,none⟩=some (.iface T0 (.pointer (some ⟨n0,0,none⟩)))) (go_keep)
    (first
      | (go_at_call 104; refine (zp2 e (.pointer ea) (E1.out.grown D1.out) bn x1 none none).mono ?_; rintro e1 w2 ⟨sb,rfl,hg,hsb⟩
         have G2:Hid (w1.grownBy w2 none):=zaa D1.out hg
         have N2:Hid (EnvAt w2 hi (.fix bn x1 e) (.pointer (some ⟨sb,0,none⟩))):=⟨sb,_,rfl,hsb,E1.out.grown (zaa D1.out hg)⟩
         have B2:=za1 ((zaa D1.out hg).block b (zgE.1 B1.out).1 (by simp) |>.trans B1.out)
         obtain ⟨_,d3,d5,_⟩:=B2
         clear hg hsb)
      | (go_at_call 53; refine (hI (S1.out.grown G2.out) (R1.out.grown G2.out (znL _) (znL _)) N2.out (uh H2)).mono ?_; rintro e1 w3 ⟨rfl,hk,hs⟩
         have S3:Hid (Sol w3 bs st2):=hs
         have K3:Hid (SK bs w w3):=K1.out.trans ((SK.of_none G2.out).trans hk)
         have B3:=bV (zdc (S1.out.grown G2.out) hk (zbG G2.out B1.out) rfl (by decide))
         obtain ⟨_,g3,g5,_⟩:=za1 B3.out
         clear hk hs)
      | (go_at_call 176; refine (zg4 S3.out (uh H3)).mono ?_; rintro e1 w4 ⟨rfl,hk,hs⟩
         have S4:Hid (Sol w4 bs st3):=hs
         have K4:Hid (SK bs w w4):=K3.out.trans hk
         have B4:=za1 (zdc S3.out hk B3.out rfl (by decide))
         obtain ⟨_,i3,i5,_⟩:=B4
         clear hk hs))
  go_wp2_with fail
  go_ret
  exact ⟨rfl,K4.out,S4.out⟩
theorem yad {n:Nat} (hI:zc4 n) (hD:znv n) {w:World} {bs hi b:Nat} {st st':Tw.SS} {e:Tw.En} {ev:Value} {d x:Tw.T} {v1 v2:Value} {bn:List UInt8} {fr to bat r:Nat} {rc:Bool} (h:Sol w bs st)
    (hb:w.heap[b]? = some (.cells #[.int .i64 fr,.int .i64 to,.bool rc,ug bn,.int .i64 bat,v1,v2] 140 (0,0))) (r0:Rep w 0 hi x v2) (rw0:Rep w 0 hi (.lett fr to rc bn bat d x) (.iface 136 (.pointer (some ⟨b,0,none⟩)))) (he:EnvAt w hi e ev) (hf:Tw.zav (n+1) (.lett fr to rc bn bat d x) e st=some (r,st')) :
    Calls Tryz.prog 53 #[.pointer (some ⟨bs,0,none⟩),.iface 136 (.pointer (some ⟨b,0,none⟩)),ev] w (zd5 bs w r st'):=by
  rw [Tw.zav] at hf
  obtain ⟨⟨x1,st1⟩,h1,h2⟩:=zbE.1 hf
  simp only at h2
  have S0:Hid (Sol w bs st):=h
  have E0:Hid (EnvAt w hi e ev):=he
  have B0:Hid (w.heap[b]? = some (.cells #[.int .i64 fr,.int .i64 to,.bool rc,ug bn,.int .i64 bat,v1,v2] 140 (0,0))):=hb
  have R0:Hid (Rep w 0 hi x v2):=r0
  have W0:=bV rw0
  have H1:=bV h1
  have H2:=bV h2
  obtain ⟨T0,n0,rfl⟩:=r0.iface
  obtain ⟨ea,rfl⟩:=he.ptr
  have q0:=zgj
  have q1:=zjc
  have q2:=zka
  have q3:=zfm
  have q4:=zhx
  have q5:=zkb
  have q6:=zig
  have q7:=zn4
  have q8:=zdx
  have q9:=zcv
  clear h he hb r0 rw0 hf h1 h2
  go_enter Tryz.func53,Tryz.ntmps53
  go_wp2_with fail
  refine (hD S0.out (uh W0) E0.out (uh H1)).mono ?_
  rintro e1 w1 ⟨rfl,hk,hs⟩
  have S1:Hid (Sol w1 bs st1):=hs
  have K1:Hid (SK bs w w1):=hk
  have E1:Hid (EnvAt w1 hi e (.pointer ea)):=EnvAt.sk S0.out hk E0.out
  have B1:=bV (zdc S0.out hk B0.out rfl (by decide))
  have R1:=bV (Rep.sk S0.out hk R0.out)
  have W1:=bV (Rep.sk S0.out hk (uh W0))
  obtain ⟨_,c3,_,c6⟩:=za1 B1.out
  clear hk hs q0 q1 q2 q3 q4 q5 q6 q7 q8 q9
  have D1:Hid (w1.grownBy w1.drew none):=zac (zab _)
  go_wp2_with fail
  go_region_held3 (fun W=>W.cell? ⟨b,3,none⟩=some (ug bn)/\W.cell? ⟨b,6,none⟩=some (.iface T0 (.pointer (some ⟨n0,0,none⟩)))) (go_keep)
    (first
      | (go_at_call 104; refine (zp2 e (.pointer ea) (E1.out.grown D1.out) bn 0 (some ⟨b,0,none⟩) ea).mono ?_; rintro e1 w2 ⟨sb,rfl,hg,hsb⟩
         have G2:Hid (w1.grownBy w2 none):=zaa D1.out hg
         have N2:Hid (EnvAt w2 hi (.dfn bn (.lett fr to rc bn bat d x) e) (.pointer (some ⟨sb,0,none⟩))):=⟨sb,_,b,rfl,hsb,E1.out.grown (zaa D1.out hg),(uh W1).grown (zaa D1.out hg) (znL _) (znL _)⟩
         have B2:=za1 ((zaa D1.out hg).block b (zgE.1 B1.out).1 (by simp) |>.trans B1.out)
         obtain ⟨_,d3,_,d6⟩:=B2
         clear hg hsb)
      | (go_at_call 53; refine (hI (S1.out.grown G2.out) (R1.out.grown G2.out (znL _) (znL _)) N2.out (uh H2)).mono ?_; rintro e1 w3 ⟨rfl,hk,hs⟩
         have S3:Hid (Sol w3 bs st'):=hs
         have K3:Hid (SK bs w w3):=K1.out.trans ((SK.of_none G2.out).trans hk)
         have B3:=bV (zdc (S1.out.grown G2.out) hk (zbG G2.out B1.out) rfl (by decide))
         obtain ⟨_,g3,_,g6⟩:=za1 B3.out
         clear hk hs))
  go_wp2_with fail
  go_ret
  exact ⟨rfl,K3.out,S3.out⟩
open Go.RowKit
theorem ych {n:Nat} (hI:zc4 n):znv (n+1):=by
 intro w bs hi bl st st' t e ev r h hr he hf
 cases t with
 | lett fr to rc bn bat d x =>
  obtain ⟨v1,v2,⟨b,_,_,hv,hb⟩,r1,r2⟩:=hr
  cases hv
  cases hrc:rc
  ·subst hrc; exact yac hI h rfl hb r1 he hf
  ·subst hrc; exact yed hI h rfl hb r1 he hf
 | _=>simp [Tw.defS] at hf
theorem zwv {n:Nat} (hI:zc4 n) (hD:znv n):zc4 (n+1):=by
 intro w bs hi st st' t e tv ev r h hr he hf
 cases t with
 | name fr to x =>
  obtain ⟨b,_,_,rfl,hb⟩:=hr
  exact zwq he (ycd hD h hb he hf)
 | int fr to v =>
  obtain ⟨b,_,_,rfl,hb⟩:=hr
  simp only [Tw.zav,zsI,zpI] at hf
  obtain ⟨rfl,rfl⟩:=hf
  exact yaa h he
 | truth fr to v =>
  obtain ⟨b,_,_,rfl,hb⟩:=hr
  simp only [Tw.zav,zsI,zpI] at hf
  obtain ⟨rfl,rfl⟩:=hf
  exact zuf h he
 | side fr to v =>
  obtain ⟨b,_,_,rfl,hb⟩:=hr
  exact zws he (ycf h hb hf)
 | bracket fr to i =>
  obtain ⟨v1,⟨b,_,_,rfl,hb⟩,r1⟩:=hr
  exact zro hI h hb r1 he hf
 | pair fr to l q =>
  obtain ⟨v1,v2,⟨b,_,_,rfl,hb⟩,r1,r2⟩:=hr
  exact zwu hI h hb r1 r2 he hf
 | call fr to f a =>
  obtain ⟨v1,v2,⟨b,_,_,rfl,hb⟩,r1,r2⟩:=hr
  exact zwr he (ycg hI h hb r1 r2 he hf)
 | binary fr to sg l q =>
  obtain ⟨v1,v2,⟨b,_,_,rfl,hb⟩,r1,r2⟩:=hr
  refine zs5 he ?_
  by_cases h23:sg=23
  ·exact zn5 hI h hb r1 r2 he hf
  ·by_cases h15:sg=15
   ·exact zn5 hI h hb r1 r2 he hf
   ·exact zn5 hI h hb r1 r2 he hf
 | cond fr to c t f =>
  obtain ⟨v1,v2,v3,⟨b,_,_,rfl,hb⟩,r1,r2,r3⟩:=hr
  exact yce he (zwt hI h hb r1 r2 r3 he hf)
 | fn fr to bn bat body =>
  obtain ⟨v1,⟨b,_,_,rfl,hb⟩,r1⟩:=hr
  exact yab hI h hb r1 he hf
 | lett fr to rc bn bat d x =>
  have hr0:=hr
  obtain ⟨v1,v2,⟨b,_,_,rfl,hb⟩,r1,r2⟩:=hr
  exact yad hI hD h hb r2 hr0 he hf
theorem zf1:∀n,zc4 n/\znv n
 | 0=>⟨fun _ _ _ hf=>by simp [Tw.zav] at hf,fun _ _ _ hf=>by simp [Tw.defS] at hf⟩
 | n+1=>⟨zwv (zf1 n).1 (zf1 n).2,ych (zf1 n).1⟩
end Go.Proofs.YtckhafpejefbbaaGreatDoor
namespace Go.Proofs.YtckhafpejefbbaaGreatDoor.Tw
open Go
def zi1 (x:Sh):Bool:=x.sort==3||x.sort==4
def zeb:Nat->SS->List Int->Nat->Option (Bool×SS×List Int)
 | 0,_,_,_=>none
 | n+1,st,mk,r=>(zdq n st r).bind fun p=>match p.2.shs[p.1]?,mk[p.1]? with
  | some x,some m =>
   if m=0/\zi1 x=true then
    (zeb n p.2 (mk.set p.1 1) x.left).bind fun a =>
     if a.1 then some (true,a.2) else (zeb n a.2.1 a.2.2 x.right).bind fun b=>if b.1 then some (true,b.2) else some (false,b.2.1,b.2.2.set p.1 2)
   else some (m==1,p.2,mk)
  | _,_=>none
def zc2 (fuel:Nat):Nat->SS->List Int->Nat->Nat->Option (Bool×SS)
 | 0,_,_,_,_=>none
 | n+1,st,mk,r,len=>if r<len then (zeb fuel st mk r).bind fun a=>if a.1 then some (true,a.2.1) else zc2 fuel n a.2.1 a.2.2 (r+1) len else some (false,st)
def zhs (fuel:Nat) (st:SS):Option (Bool×SS):=zc2 fuel (st.shs.length+1) st (List.replicate st.shs.length 0) 0 st.shs.length
end Go.Proofs.YtckhafpejefbbaaGreatDoor.Tw
namespace Go.Proofs.YtckhafpejefbbaaGreatDoor
open Go.RowKit
structure HK (bs g gm:Nat) (w w':World):Prop where
 os:w'.os=w.os
 tape:w'.tape=w.tape
 output:w'.output=w.output
 size:w.heap.size<=w'.heap.size
 block:∀k,k<w.heap.size->k≠bs->k≠g->k≠gm->w'.heap[k]? = w.heap[k]?
theorem HK.trans {bs g gm:Nat} {a b c:World} (h:HK bs g gm a b) (k:HK bs g gm b c):HK bs g gm a c :=
 ⟨k.os.trans h.os,k.tape.trans h.tape,k.output.trans h.output,Nat.le_trans h.size k.size,fun i hi hb hn hm=>(k.block i (Nat.lt_of_lt_of_le hi h.size) hb hn hm).trans (h.block i hi hb hn hm)⟩
theorem HK.of_uk {bs g gm:Nat} {w w':World} (h:UK bs g w w'):HK bs g gm w w':=⟨h.os,h.tape,h.output,h.size,fun i hi hb hn _=>h.block i hi hb hn⟩
theorem HK.of_none {bs g gm:Nat} {w w':World} (h:w.grownBy w' none):HK bs g gm w w':=HK.of_uk (UK.of_none h)
theorem HK.setMark {bs g gm:Nat} {a w:World} (h:HK bs g gm a w) (j:Nat) (v:Value):HK bs g gm a (w.setCell ⟨gm,j,none⟩ v) :=
 h.trans ⟨rfl,rfl,rfl,by simp,fun k _ _ _ hb=>heap_setCell_other w ⟨gm,j,none⟩ k v (by simpa using hb)⟩
theorem HK.at {bs g gm:Nat} {w w':World} (h:HK bs g gm w w') {b:Nat} {o:Obj} (hb:w.heap[b]? = some o) (h1:b≠bs) (h2:b≠g) (h3:b≠gm):w'.heap[b]? = some o:=by
 rw [h.block b (zgE.1 hb).1 h1 h2 h3]; exact hb
def zf8 (mk:List Int):Array Value:=(mk.map fun n=>Value.int .i64 n).toArray
def MarksAt (w:World) (gm:Nat) (mk:List Int):Prop:=w.heap[gm]? = some (.cells (zf8 mk) 341 (0,0))
theorem MarksAt.get {w:World} {gm:Nat} {mk:List Int} (h:MarksAt w gm mk) {j:Nat} {m:Int} (hj:mk[j]? = some m):w.cell? ⟨gm,j,none⟩=some (.int .i64 m):=by
 rw [cell_of_row w gm _ _ _ _ h]
 simp [zf8,hj]
theorem MarksAt.set {w:World} {gm:Nat} {mk:List Int} (h:MarksAt w gm mk) (j:Nat) (m:Int):MarksAt (w.setCell ⟨gm,j,none⟩ (.int .i64 m)) gm (mk.set j m):=by
 unfold MarksAt
 rw [heap_setCell_same _ _ _ _ _ _ h]
 congr 2
 apply Array.ext'
 simp [zf8,List.map_set]
theorem RowAt.other {w:World} {bs g cap:Nat} {cur:Array Value} {st:Tw.SS} (h:RowAt w bs g cap cur st) {b:Nat} (h1:b≠bs) (h2:b≠g) (j:Nat) (v:Value):RowAt (w.setCell ⟨b,j,none⟩ v) bs g cap cur st :=
 {h with solver:=by rw [heap_setCell_other _ _ _ _ (by simpa using h1.symm)]; exact h.solver,row:=by rw [heap_setCell_other _ _ _ _ (by simpa using h2.symm)]; exact h.row}
theorem zmx (x:Tw.Sh) (w:World) :
  Calls Tryz.prog 178 #[.agg #[.int .i64 x.sort,.int .i64 x.left,.int .i64 x.right,.int .i64 x.same]] w fun e w'=>e = .returned (.bool (Tw.zi1 x))/\w.grownBy w' none:=by
 unfold Tw.zi1
 cases h3:(x.sort==3)
 ·go_enter Tryz.func178,Tryz.ntmps178
  go_wp2_with fail
  go_ret
  exact ⟨zc5 (by simp),zwA _ _ none⟩
 ·go_enter Tryz.func178,Tryz.ntmps178
  go_wp2_with fail
  go_ret
  exact ⟨zc5 (by simp),zwA _ _ none⟩
def yf1 (bs g cap gm:Nat) (w:World) (b:Bool) (st':Tw.SS) (mk':List Int) (e:Ending) (w':World):Prop:=e = .returned (.bool b)/\HK bs g gm w w'/\(∃cur',RowAt w' bs g cap cur' st')/\MarksAt w' gm mk'
def yd1 (n:Nat):Prop:=∀ {w:World} {bs g cap gm:Nat} {cur:Array Value} {st st':Tw.SS} {mk mk':List Int} {r:Nat} {b:Bool},RowAt w bs g cap cur st->MarksAt w gm mk->gm≠bs->gm≠g->mk.length<=10000001->Tw.zeb n st mk r=some (b,st',mk') ->
  Calls Tryz.prog 106 #[.pointer (some ⟨bs,0,none⟩),.int .i64 r,.slice (some ⟨gm,0,none⟩) mk.length mk.length] w (yf1 bs g cap gm w b st' mk')
theorem zis:∀(n:Nat) {st st':Tw.SS} {mk mk':List Int} {r:Nat} {b:Bool},Tw.zeb n st mk r=some (b,st',mk')->mk'.length=mk.length
 | 0,_,_,_,_,_,_,h=>by simp [Tw.zeb] at h
 | n+1,st,st',mk,mk',r,b,h=>by
  rw [Tw.zeb] at h
  obtain ⟨⟨p,st1⟩,hp,h1⟩:=zbE.1 h
  simp only at h1
  split at h1
  rotate_left
  ·cases h1
  split at h1
  ·obtain ⟨⟨b1,st2,mk2⟩,h2,h3⟩:=zbE.1 h1
   have e2:=zis n h2
   simp only at h3
   split at h3
   ·simp only [zsI,zpI] at h3
    rw [<-h3.2.2,e2]; simp
   ·obtain ⟨⟨b2,st3,mk3⟩,h4,h5⟩:=zbE.1 h3
    have e4:=zis n h4
    simp only at h5
    split at h5
    ·simp only [zsI,zpI] at h5
     rw [<-h5.2.2,e4,e2]; simp
    ·simp only [zsI,zpI] at h5
     rw [<-h5.2.2]; simp [e4,e2]
  ·simp only [zsI,zpI] at h1
   rw [h1.2.2]
open Go.RowKit
theorem zww {n:Nat} (ih:yd1 n):yd1 (n+1):=by
 intro w bs g cap gm cur st st' mk mk' r b h hM hgb hgg hlm hf
 rw [Tw.zeb] at hf
 obtain ⟨⟨p,st1⟩,hp,hf1⟩:=zbE.1 hf
 clear hf
 simp only at hf1
 cases hx:st1.shs[p]? with
 | none=>rw [hx] at hf1; simp at hf1
 | some x =>
 cases hm:mk[p]? with
 | none=>rw [hx,hm] at hf1; simp at hf1
 | some m =>
 rw [hx,hm] at hf1
 simp only at hf1
 have HH:Hid (RowAt w bs g cap cur st):=h
 have M0:Hid (MarksAt w gm mk):=hM
 have H1:Hid (Tw.zdq n st r=some (p,st1)):=hp
 have HX:Hid (st1.shs[p]? = some x):=hx
 have HMK:Hid (mk[p]? = some m):=hm
 have hpm:p<mk.length:=(zlE.1 hm).1
 have hpmi:(p:Int)<(mk.length:Int):=by omega
 have c237:Tryz.prog.cellsOf 334=4:=by kernel_rfl
 have c252:Tryz.prog.cellsOf 341=1:=by kernel_rfl
 have zg:=(zgE.1 h.row).1
 have zb:=(zgE.1 h.solver).1
 have zm:=(zgE.1 hM).1
 clear h hM hp hx hm
 by_cases hmx:m=0/\Tw.zi1 x=true
 rotate_left
 ·rw [if_neg hmx] at hf1
  simp only [zsI,zpI] at hf1
  obtain ⟨hb,rfl,rfl⟩:=hf1
  have HB:=bV hb
  clear hb
  cases hm0:(m != 0)
  ·have hmd:Hid (Tw.zi1 x=false):=by
    show _=_
    cases e:Tw.zi1 x
    ·rfl
    ·exact absurd ⟨by simpa using hm0,e⟩ hmx
   clear hmx
   go_enter Tryz.func106,Tryz.ntmps106
   go_wp2_with fail
   refine (zet HH.out H1.out).mono ?_
   rintro e1 w1 ⟨rfl,hk,cur1,hR⟩
   have P1:Hid (RowAt w1 bs g cap cur1 st1):=hR
   have K1:Hid (UK bs g w w1):=hk
   have M1:Hid (MarksAt w1 gm mk):=hk.at M0.out hgb hgg
   obtain ⟨hpl,x0,x1,x2,x3⟩:=hR.sh HX.out
   obtain ⟨s0,_,_,_⟩:=zau hR.solver
   have hpi:(p:Int)<(st1.shs.length:Int):=by omega
   have hml:=hR.many
   have z1:=hk.size
   have zm1:gm<w1.heap.size:=by omega
   have zg1:g<w1.heap.size:=by omega
   have zb1:bs<w1.heap.size:=by omega
   have mc:=M1.out.get HMK.out
   have mf:=frozen_of_row _ _ p _ _ M1.out
   clear hk hR
   go_wp2_with fail
   refine (zmx x _).mono ?_
   rintro e1 w2 ⟨rfl,hg⟩
   rw [hmd.out]
   have G2:Hid (w1.grownBy w2 none):=zaa (zwA _ _ none) hg
   have M2:Hid (MarksAt w2 gm mk):=(Keep.of_none (bp:=bs) G2.out).at M1.out hgb
   have mc2:=M2.out.get HMK.out
   clear hg
   go_wp2_with fail
   go_ret
   exact ⟨zc5 (uh HB),HK.trans (HK.of_uk K1.out) (HK.of_none G2.out),⟨cur1,P1.out.grown G2.out⟩,M2.out⟩
  ·clear hmx
   go_enter Tryz.func106,Tryz.ntmps106
   go_wp2_with fail
   refine (zet HH.out H1.out).mono ?_
   rintro e1 w1 ⟨rfl,hk,cur1,hR⟩
   have P1:Hid (RowAt w1 bs g cap cur1 st1):=hR
   have K1:Hid (UK bs g w w1):=hk
   have M1:Hid (MarksAt w1 gm mk):=hk.at M0.out hgb hgg
   obtain ⟨hpl,x0,x1,x2,x3⟩:=hR.sh HX.out
   obtain ⟨s0,_,_,_⟩:=zau hR.solver
   have hpi:(p:Int)<(st1.shs.length:Int):=by omega
   have hml:=hR.many
   have z1:=hk.size
   have zm1:gm<w1.heap.size:=by omega
   have zg1:g<w1.heap.size:=by omega
   have zb1:bs<w1.heap.size:=by omega
   have mc:=M1.out.get HMK.out
   have mf:=frozen_of_row _ _ p _ _ M1.out
   clear hk hR
   go_wp2_with fail
   go_ret
   exact ⟨zc5 (uh HB),HK.trans (HK.of_uk K1.out) (HK.of_none (zwA _ _ none)),⟨cur1,P1.out.grown (zwA _ _ none)⟩,zin M1.out _⟩
 ·rw [if_pos hmx] at hf1
  obtain ⟨hm0,hmd0⟩:=hmx
  have hm1:(m != 0)=false:=by simp [hm0]
  have hmd:Hid (Tw.zi1 x=true):=hmd0
  clear hm0 hmd0
  obtain ⟨⟨b1,st2,mk2⟩,h2,hf2⟩:=zbE.1 hf1
  clear hf1
  simp only at hf2
  have L2:=zis n h2
  simp only [List.length_set] at L2
  have H2:Hid (Tw.zeb n st1 (mk.set p 1) x.left=some (b1,st2,mk2)):=h2
  clear h2
  have HF:=bV hf2
  clear hf2
  cases hb1:b1
  ·have HF2:=uh HF
   rw [hb1] at HF2
   simp only [Bool.false_eq_true,if_false] at HF2
   obtain ⟨⟨b2,st3,mk3⟩,h4,hf5⟩:=zbE.1 HF2
   simp only at hf5
   have L3:=zis n h4
   have H4:Hid (Tw.zeb n st2 mk2 x.right=some (b2,st3,mk3)):=h4
   subst hb1
   clear HF HF2 h4
   have HF5:=bV hf5
   clear hf5
   go_enter Tryz.func106,Tryz.ntmps106
   go_wp2_with fail
   refine (zet HH.out H1.out).mono ?_
   rintro e1 w1 ⟨rfl,hk,cur1,hR⟩
   have P1:Hid (RowAt w1 bs g cap cur1 st1):=hR
   have K1:Hid (UK bs g w w1):=hk
   have M1:Hid (MarksAt w1 gm mk):=hk.at M0.out hgb hgg
   obtain ⟨hpl,x0,x1,x2,x3⟩:=hR.sh HX.out
   obtain ⟨s0,_,_,_⟩:=zau hR.solver
   have hpi:(p:Int)<(st1.shs.length:Int):=by omega
   have hml:=hR.many
   have z1:=hk.size
   have zm1:gm<w1.heap.size:=by omega
   have zg1:g<w1.heap.size:=by omega
   have zb1:bs<w1.heap.size:=by omega
   have mc:=M1.out.get HMK.out
   have mf:=frozen_of_row _ _ p _ _ M1.out
   clear hk hR
   go_wp2_with fail
   refine (zmx x _).mono ?_
   rintro e1 w2 ⟨rfl,hg⟩
   rw [hmd.out]
   have G2:Hid (w1.grownBy w2 none):=zaa (zwA _ _ none) hg
   have N2:Hid (w2.heap[w1.heap.size]? = some (.cells #[.int .i64 x.sort,.int .i64 x.left,.int .i64 x.right,.int .i64 x.same] 334 (0,0))):=(hg.block _ (by simp) (by simp)).trans (zad w1 _)
   have M2:Hid (MarksAt w2 gm mk):=(Keep.of_none (bp:=bs) G2.out).at M1.out hgb
   have P2:Hid (RowAt w2 bs g cap cur1 st1):=P1.out.grown G2.out
   have z2:=G2.out.size
   have mc2:=M2.out.get HMK.out
   have mf2:=frozen_of_row _ _ p _ _ M2.out
   obtain ⟨y0,y1,y2,y3⟩:=zbl N2.out
   clear hg x0 x1 x2 x3 s0 mc mf
   go_wp2_with fail
   have Q2:=ih (P2.out.other hgb hgg p (.int .i64 1)) (M2.out.set p 1) hgb hgg (by simpa using hlm) H2.out
   rw [List.length_set] at Q2
   refine Q2.mono ?_
   rintro e1 w3 ⟨rfl,hk,⟨cur3,hR⟩,hM3⟩
   have P3:Hid (RowAt w3 bs g cap cur3 st2):=hR
   have M3:Hid (MarksAt w3 gm mk2):=hM3
   have K3:Hid (HK bs g gm w w3):=(HK.trans (HK.of_uk K1.out) (HK.of_none G2.out)).setMark p _ |>.trans hk
   have N2b:Hid ((w2.setCell ⟨gm,p,none⟩ (.int .i64 1)).heap[w1.heap.size]? = some (.cells #[.int .i64 x.sort,.int .i64 x.left,.int .i64 x.right,.int .i64 x.same] 334 (0,0))):=by
    show _=_
    rw [heap_setCell_other _ _ _ _ (by simp; omega)]; exact N2.out
   have N3:Hid (w3.heap[w1.heap.size]? = some (.cells #[.int .i64 x.sort,.int .i64 x.left,.int .i64 x.right,.int .i64 x.same] 334 (0,0))):=hk.at N2b.out (by omega) (by omega) (by omega)
   have z3:w2.heap.size<=w3.heap.size:=by have:=hk.size; simpa using this
   clear hk hR hM3 Q2 y0 y1 y2 y3 mc2 mf2
   obtain ⟨y0,y1,y2,y3⟩:=zbl N3.out
   have Q3:=ih P3.out M3.out hgb hgg (by rw [L2]; exact hlm) H4.out
   rw [L2] at Q3
   cases hb2:b2
   ·have HF6:=uh HF5
    rw [hb2] at HF6
    simp only [Bool.false_eq_true,if_false,zsI,zpI] at HF6
    obtain ⟨rfl,rfl,rfl⟩:=HF6
    subst hb2
    go_wp2_with fail
    refine Q3.mono ?_
    rintro e1 w4 ⟨rfl,hk,⟨cur4,hR⟩,hM4⟩
    have P4:Hid (RowAt w4 bs g cap cur4 st3):=hR
    have M4:Hid (MarksAt w4 gm mk3):=hM4
    have K4:Hid (HK bs g gm w w4):=K3.out.trans hk
    have hp3:mk3[p]?.isSome:=by simp; omega
    obtain ⟨m3,hm3⟩:=Option.isSome_iff_exists.1 hp3
    have mc4:=M4.out.get hm3
    have mf4:=frozen_of_row _ _ p _ _ M4.out
    clear hk hR hM4 Q3 hp3 hm3
    go_wp2_with fail
    go_ret
    exact ⟨rfl,K4.out.setMark p _,⟨cur4,P4.out.other hgb hgg p _⟩,M4.out.set p 2⟩
   ·have HF6:=uh HF5
    rw [hb2] at HF6
    simp only [if_true,zsI,zpI] at HF6
    obtain ⟨rfl,rfl,rfl⟩:=HF6
    subst hb2
    go_wp2_with fail
    refine Q3.mono ?_
    rintro e1 w4 ⟨rfl,hk,⟨cur4,hR⟩,hM4⟩
    have X:Hid (HK bs g gm w w4/\(∃cur',RowAt w4 bs g cap cur' st3)/\MarksAt w4 gm mk3):=⟨K3.out.trans hk,⟨cur4,hR⟩,hM4⟩
    clear hk hR hM4 Q3
    go_wp2_with fail
    go_ret
    exact ⟨rfl,X.out⟩
  ·have HF2:=uh HF
   rw [hb1] at HF2
   simp only [if_true,zsI,zpI] at HF2
   obtain ⟨rfl,rfl,rfl⟩:=HF2
   subst hb1
   clear HF
   go_enter Tryz.func106,Tryz.ntmps106
   go_wp2_with fail
   refine (zet HH.out H1.out).mono ?_
   rintro e1 w1 ⟨rfl,hk,cur1,hR⟩
   have P1:Hid (RowAt w1 bs g cap cur1 st1):=hR
   have K1:Hid (UK bs g w w1):=hk
   have M1:Hid (MarksAt w1 gm mk):=hk.at M0.out hgb hgg
   obtain ⟨hpl,x0,x1,x2,x3⟩:=hR.sh HX.out
   obtain ⟨s0,_,_,_⟩:=zau hR.solver
   have hpi:(p:Int)<(st1.shs.length:Int):=by omega
   have hml:=hR.many
   have z1:=hk.size
   have zm1:gm<w1.heap.size:=by omega
   have zg1:g<w1.heap.size:=by omega
   have zb1:bs<w1.heap.size:=by omega
   have mc:=M1.out.get HMK.out
   have mf:=frozen_of_row _ _ p _ _ M1.out
   clear hk hR
   go_wp2_with fail
   refine (zmx x _).mono ?_
   rintro e1 w2 ⟨rfl,hg⟩
   rw [hmd.out]
   have G2:Hid (w1.grownBy w2 none):=zaa (zwA _ _ none) hg
   have N2:Hid (w2.heap[w1.heap.size]? = some (.cells #[.int .i64 x.sort,.int .i64 x.left,.int .i64 x.right,.int .i64 x.same] 334 (0,0))):=(hg.block _ (by simp) (by simp)).trans (zad w1 _)
   have M2:Hid (MarksAt w2 gm mk):=(Keep.of_none (bp:=bs) G2.out).at M1.out hgb
   have P2:Hid (RowAt w2 bs g cap cur1 st1):=P1.out.grown G2.out
   have z2:=G2.out.size
   have mc2:=M2.out.get HMK.out
   have mf2:=frozen_of_row _ _ p _ _ M2.out
   obtain ⟨y0,y1,y2,y3⟩:=zbl N2.out
   clear hg x0 x1 x2 x3 s0 mc mf
   go_wp2_with fail
   have Q2:=ih (P2.out.other hgb hgg p (.int .i64 1)) (M2.out.set p 1) hgb hgg (by simpa using hlm) H2.out
   rw [List.length_set] at Q2
   refine Q2.mono ?_
   rintro e1 w3 ⟨rfl,hk,⟨cur3,hR⟩,hM3⟩
   have P3:Hid (RowAt w3 bs g cap cur3 st2):=hR
   have M3:Hid (MarksAt w3 gm mk2):=hM3
   have K3:Hid (HK bs g gm w w3):=(HK.trans (HK.of_uk K1.out) (HK.of_none G2.out)).setMark p _ |>.trans hk
   have N2b:Hid ((w2.setCell ⟨gm,p,none⟩ (.int .i64 1)).heap[w1.heap.size]? = some (.cells #[.int .i64 x.sort,.int .i64 x.left,.int .i64 x.right,.int .i64 x.same] 334 (0,0))):=by
    show _=_
    rw [heap_setCell_other _ _ _ _ (by simp; omega)]; exact N2.out
   have N3:Hid (w3.heap[w1.heap.size]? = some (.cells #[.int .i64 x.sort,.int .i64 x.left,.int .i64 x.right,.int .i64 x.same] 334 (0,0))):=hk.at N2b.out (by omega) (by omega) (by omega)
   have z3:w2.heap.size<=w3.heap.size:=by have:=hk.size; simpa using this
   clear hk hR hM3 Q2 y0 y1 y2 y3 mc2 mf2
   obtain ⟨y0,y1,y2,y3⟩:=zbl N3.out
   go_wp2_with fail
   go_ret
   exact ⟨rfl,K3.out,⟨cur3,P3.out⟩,M3.out⟩
theorem zr7:∀n,yd1 n
 | 0=>fun _ _ _ _ _ hf=>by simp [Tw.zeb] at hf
 | n+1=>zww (zr7 n)
open Go.RowKit
theorem Tryz.info341:(Tryz.prog.info? 341).map (fun i=>(i.zero,i.size,i.bytes))=some (some (.int .i64 0),1,8):=by kernel_rfl
theorem zwx (N:Nat):madeCells (Value.int .i64 0).cells N=zf8 (List.replicate N 0):=by
 apply Array.ext
 ·simp [madeCells,zf8]
 ·intro i h1 h2
  simp [madeCells,zf8,Value.cells,Nat.mod_one]
theorem zwy (N:Nat) (hN:N<=10000001):∃MC,MC=zf8 (List.replicate N 0)/\∀W:World,(Instr.makeSlice 240 (.int .i64 N) (.int .i64 N)).run Tryz.prog W = .ok (.slice (some ⟨W.heap.size,0,none⟩) N N) (W.alloc (.cells MC 341)):=by
 obtain ⟨i0,hi,hz0,hz1,hz2⟩:=info_parts Tryz.info341
 refine ⟨_,rfl,fun W => ?_⟩
 have h:=run_make (P:=Tryz.prog) W 240 341 i0 (.int .i64 0) Tryz.underlying240 hi hz0 .i64 .i64 N N (by omega) (by omega) (by rw [hz2]; omega) (by omega)
 rw [hz1] at h
 simp only [Int.toNat_natCast,Nat.mul_one] at h
 rw [zwx] at h
 exact h
theorem zkc {w:World} {bs g cap:Nat} {cur:Array Value} {st st':Tw.SS} (h:RowAt w bs g cap cur st) {fuel:Nat} {b:Bool} (hf:Tw.zhs fuel st=some (b,st')) :
  Calls Tryz.prog 54 #[.pointer (some ⟨bs,0,none⟩)] w fun e w'=>e = .returned (.bool b)/\UK bs g w w'/\∃cur',RowAt w' bs g cap cur' st':=by
 obtain ⟨s0,_,_,_⟩:=zau h.solver
 have zb:=(zgE.1 h.solver).1
 have zg:=(zgE.1 h.row).1
 have hm:=h.many
 obtain ⟨MC,hMC,hmk⟩:=zwy st.shs.length hm
 have HMC:=bV hMC
 have HH:Hid (RowAt w bs g cap cur st):=h
 have HF:Hid (Tw.zc2 fuel (st.shs.length+1) st (List.replicate st.shs.length 0) 0 st.shs.length=some (b,st')):=hf
 generalize hN:st.shs.length=N at *
 have HN:=bV hN
 clear h hf hMC hN
 go_enter Tryz.func54,Tryz.ntmps54
 go_wp2_with fail
 go_loopg [16] (N+1) (fun k iv wr=>∃(q:Nat) (stk:Tw.SS) (mkk:List Int) (curk:Array Value),iv = .int .i64 q/\q<=N/\mkk.length=N/\Hid (RowAt wr bs g cap curk stk)/\Hid (MarksAt wr w.heap.size mkk)/\Hid (HK bs g w.heap.size (w.alloc (.cells MC 341)) wr)/\Hid (Tw.zc2 fuel k stk mkk q N=some (b,st')))
 case atStart=>exact ⟨0,st,List.replicate N 0,cur,rfl,by omega,by simp,HH.out.grown (zwA _ _ none),by show _=_; rw [zad]; rw [uh HMC],HK.of_none (zab _),HF⟩
 case round =>
  obtain ⟨q,stk,mkk,curk,rfl,hq,hml,PR,MR,KR,HR⟩:=hrel
  cases gk with
  | zero=>have:=HR.out; simp [Tw.zc2] at this
  | succ k =>
  have HR2:=HR.out
  rw [Tw.zc2] at HR2
  clear HR HF
  by_cases hlt:q<N
  ·rw [if_pos hlt] at HR2
   obtain ⟨⟨b1,st1,mk1⟩,h1,hf1⟩:=zbE.1 HR2
   simp only at hf1
   have Q:=zr7 fuel PR.out MR.out (by omega) (by omega) (by omega) h1
   rw [hml] at Q
   have hl1:=zis fuel h1
   clear HR2 h1
   cases hb1:b1
   ·rw [hb1] at hf1
    simp only [Bool.false_eq_true,if_false] at hf1
    have HF:=bV hf1
    subst hb1
    clear hf1
    go_wp2_with fail
    refine Q.mono ?_
    rintro e1 w1 ⟨rfl,hk,⟨cur1,hR⟩,hM⟩
    have P1:Hid (RowAt w1 bs g cap cur1 st1):=hR
    have M1:Hid (MarksAt w1 w.heap.size mk1):=hM
    have K1:=bV (KR.out.trans hk)
    clear hk hR hM Q
    go_wp2_with fail
    go_roundg k
    case measure=>omega
    case rel=>exact ⟨q+1,st1,mk1,cur1,by go_num,by omega,by omega,P1,M1,K1,HF⟩
   ·rw [hb1] at hf1
    simp only [if_true,zsI,zpI] at hf1
    obtain ⟨rfl,rfl⟩:=hf1
    subst hb1
    go_wp2_with fail
    refine Q.mono ?_
    rintro e1 w1 ⟨rfl,hk,⟨cur1,hR⟩,hM⟩
    have X:Hid (HK bs g w.heap.size (w.alloc (.cells MC 341)) w1/\RowAt w1 bs g cap cur1 st1):=⟨KR.out.trans hk,hR⟩
    clear hk hR hM Q
    go_wp2_with fail
    go_ret
    go_light
    refine ⟨rfl,⟨X.out.1.os,X.out.1.tape,X.out.1.output,by have:=X.out.1.size; simp at this; omega,fun i hi h1 h2 => ?_⟩,cur1,X.out.2⟩
    rw [X.out.1.block i (by simp; omega) h1 h2 (by omega)]
    exact Below.heap_alloc w _ i hi
  ·rw [if_neg hlt] at HR2
   simp only [zsI,zpI] at HR2
   obtain ⟨rfl,rfl⟩:=HR2
   go_wp2_with fail
   go_ret
   go_light
   refine ⟨rfl,⟨KR.out.os,KR.out.tape,KR.out.output,by have:=KR.out.size; simp at this; omega,fun i hi h1 h2 => ?_⟩,curk,PR.out⟩
   rw [KR.out.block i (by simp; omega) h1 h2 (by omega)]
   exact Below.heap_alloc w _ i hi
theorem zga (w:World) :
  Calls Tryz.prog 52 #[] w fun e w'=>e = .returned (.pointer (some ⟨w.heap.size,0,none⟩))/\w.grownBy w' none/\Sol w' w.heap.size ⟨[⟨1,0,0,0⟩,⟨2,0,0,1⟩],false⟩:=by
 have S0:Hid (SolAt (w.alloc (.cells #[.slice none 0 0,.bool false] 128)) w.heap.size (.slice none 0 0) ⟨[],false⟩) :=
  ⟨zad w _,World.ownsRow_nil _ _ _ _,by simp [Value.ownBlock],by simp⟩
 go_enter Tryz.func52,Tryz.ntmps52
 go_wp2_with fail
 refine (zs3 S0.out 1 0 0 (n:=0) (st':=⟨[⟨1,0,0,0⟩],false⟩) rfl).mono ?_
 rintro e1 w1 ⟨rfl,hk,v1,hS⟩
 have S1:Hid (SolAt w1 w.heap.size v1 ⟨[⟨1,0,0,0⟩],false⟩):=hS
 have K1:=bV hk
 clear hk hS
 go_wp2_with fail
 refine (zs3 S1.out 2 0 0 (n:=1) (st':=⟨[⟨1,0,0,0⟩,⟨2,0,0,1⟩],false⟩) rfl).mono ?_
 rintro e1 w2 ⟨rfl,hk,v2,hS⟩
 have S2:Hid (SolAt w2 w.heap.size v2 ⟨[⟨1,0,0,0⟩,⟨2,0,0,1⟩],false⟩):=hS
 have K2:=bV ((uh K1).trans hk)
 clear hk hS
 go_wp2_with fail
 go_ret
 go_light
 refine ⟨rfl,?_,?_⟩
 ·have K:=uh K2
  exact ⟨K.os,K.tape,K.output,by have:=K.size; simp at this; omega,fun i hi _=>by
   rw [K.block i (by simp; omega) (by omega) (.inl hi)]; exact Below.heap_alloc w _ i hi⟩
 ·obtain ⟨g,cap,cur,_,hR⟩:=S2.out.row (by simp)
  exact ⟨g,cap,cur,hR⟩
end Go.Proofs.YtckhafpejefbbaaGreatDoor
namespace Go.Proofs.YtckhafpejefbbaaGreatDoor.Tw
open Go
inductive WEn where
 | nil
 | cons (name:List UInt8) (k:Nat) (o:WEn)
def WEn.look:WEn->List UInt8->Option Nat
 | .nil,_=>none
 | .cons n k o,x=>if n=x then some k else o.look x
def WEn.size:WEn->Nat
 | .nil=>0
 | .cons _ _ o=>o.size+1
def zaj:T->WEn->Option Nat
 | .name _ _ x,e=>(e.look x).bind fun k=>some (min k 2001)
 | .int _ _ _,_=>some 1
 | .truth _ _ _,_=>some 1
 | .side _ _ _,_=>some 1
 | .bracket _ _ i,e=>(zaj i e).bind fun a=>some (min (1+a) 2001)
 | .pair _ _ l r,e=>(zaj l e).bind fun a=>(zaj r e).bind fun b=>some (min (1+a+b) 2001)
 | .call _ _ l r,e=>(zaj l e).bind fun a=>(zaj r e).bind fun b=>some (min (1+a+b) 2001)
 | .binary _ _ _ l r,e=>(zaj l e).bind fun a=>(zaj r e).bind fun b=>some (min (1+a+b) 2001)
 | .cond _ _ c t f,e=>(zaj c e).bind fun a=>(zaj t e).bind fun b=>(zaj f e).bind fun d=>some (min (1+a+b+d) 2001)
 | .fn _ _ bn _ b,e=>(zaj b (.cons bn 1 e)).bind fun a=>some (min (1+a) 2001)
 | .lett _ _ rc bn _ d b,e=>(zaj d (if rc then .cons bn 1 e else e)).bind fun a=>(zaj b (.cons bn a e)).bind fun c=>some (min (1+(a+c)) 2001)
end Go.Proofs.YtckhafpejefbbaaGreatDoor.Tw
