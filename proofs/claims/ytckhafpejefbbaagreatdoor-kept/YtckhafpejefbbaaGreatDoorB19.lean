/- Texts of the proof, put together: PtrEql, UsesIt, BindersIt, FreeIt, AltSmall, AltTarget. -/
import Derived.Test.YtckhafpejefbbaaGreatDoorB18
import Derived.LaidEql
import Derived.Test.YtckhafpejefbbaaGreatDoorB13
import Derived.Test.YtckhafpejefbbaaGreatDoorB03

set_option maxRecDepth 100000
set_option maxHeartbeats 4000000
namespace Go.Proofs.YtckhafpejefbbaaGreatDoor
open Go Go.RowKit
variable {P : Program} (w : World)
theorem zol (d:Nat) {t te:TypeId} {j:TypeInfo} (hp:P.underlying t=some (.pointer te)) (hj:P.info? te=some j) (a:Addr) :
  (Op.equalIn (d+1) t (.pointer (some a)) (.pointer (some a))).run P w = .ok true w:=by
 simp [Op.equalIn,run_underlying hp,sizeOf,typeInfo,hj,run_sameAddr_same]
theorem zm9 (d:Nat) {t te:TypeId} {j:TypeInfo} (hp:P.underlying t=some (.pointer te)) (hj:P.info? te=some j) (hsz:j.size≠0) {a b:Addr} {ca cb:Array Value} {ta tb:TypeId} (hne:a≠b)
  (ha:w.heap[a.block]? = some (.cells ca ta (0,0))) (hb:w.heap[b.block]? = some (.cells cb tb (0,0))) :
  (Op.equalIn (d+1) t (.pointer (some a)) (.pointer (some b))).run P w = .ok false w:=by
 simp [Op.equalIn,run_underlying hp,sizeOf,typeInfo,hj,hsz,run_sameAddr_other w hne ha hb]
theorem zom (d:Nat) {t te:TypeId} (hp:P.underlying t=some (.pointer te)) (b:Addr) :
  (Op.equalIn (d+1) t (.pointer none) (.pointer (some b))).run P w = .ok false w:=by
 simp [Op.equalIn,run_underlying hp]
theorem zna {t te:TypeId} {sz:Nat} (hp:P.underlying t=some (.pointer te)) (hte:(P.info? te).map (·.size)=some sz) (a:Addr) :
  Sem.run P (binOp .eql t (.pointer (some a)) (.pointer (some a))) w = .ok (.bool true) w:=by
 obtain ⟨j,hj,_⟩:=Option.map_eq_some_iff.1 hte
 simp only [binOp]
 simp [Op.equal,Op.maxDepth,zol w 9999 hp hj a]
theorem zlu {t te:TypeId} {sz:Nat} (hp:P.underlying t=some (.pointer te)) (hte:(P.info? te).map (·.size)=some sz) (hsz:sz≠0) {a b:Addr} {ca cb:Array Value} {ta tb:TypeId} (hne:a≠b)
  (ha:w.heap[a.block]? = some (.cells ca ta (0,0))) (hb:w.heap[b.block]? = some (.cells cb tb (0,0))) :
  Sem.run P (binOp .eql t (.pointer (some a)) (.pointer (some b))) w = .ok (.bool false) w:=by
 obtain ⟨j,hj,hz⟩:=Option.map_eq_some_iff.1 hte
 simp only [binOp]
 simp [Op.equal,Op.maxDepth,zm9 w 9999 hp hj (by rw [hz]; exact hsz) hne ha hb]
theorem ztg {t te:TypeId} (hp:P.underlying t=some (.pointer te)) (b:Addr) :
  Sem.run P (binOp .eql t (.pointer none) (.pointer (some b))) w = .ok (.bool false) w:=by
 simp only [binOp]
 simp [Op.equal,Op.maxDepth,zom w 9999 hp b]
theorem zqx:Tryz.prog.underlying 79=some (.pointer 89):=by kernel_rfl
theorem zu8:(Tryz.prog.info? 89).map (·.size)=some 2:=by kernel_rfl
theorem ydc:Tryz.prog.underlying 83=some (.pointer 87):=by kernel_rfl
theorem ydd:(Tryz.prog.info? 87).map (·.size)=some 3:=by kernel_rfl
open Go.RowKit Go.Shelf
attribute [local go_sem] Oper.semAt_some
def BinBlk (w:World) (a:Addr):Prop:=∃c t,w.heap[a.block]? = some (.cells c t (0,0))/\zh9.contains t=true
theorem BinBlk.kp {w w':World} {a:Addr} (h:BinBlk w a) (hk:Kp w w'):BinBlk w' a:=by
 obtain ⟨c,t,h1,h2⟩:=h
 exact ⟨c,t,hk _ _ _ _ h1 h2,h2⟩
def BEn.blk (w:World) (e:Tw.BEn):Prop:=∀x a,e.look x=some a->BinBlk w a
theorem BEn.blk.cons {w:World} {e:Tw.BEn} (h:BEn.blk w e) (n:List UInt8) {a:Addr} (ha:BinBlk w a):BEn.blk w (.cons n a e):=fun x b hx=>by
 simp only [Tw.BEn.look] at hx
 split at hx
 ·cases hx; exact ha
 ·exact h x b hx
theorem NL.blk {w:World} {hi:Nat}:∀ {t:Tw.T} {v:Value} {e:Tw.BEn} {L:List NB},NL w hi t v e L->BEn.blk w e->∀x∈L,∀a,x.k=some a->BinBlk w a
 | .name ..,_,e,_,⟨b,_,rfl⟩,he=>by
  intro x hx a ha
  simp only [List.mem_singleton] at hx
  subst hx
  exact he _ _ ha
 | .int ..,_,_,_,⟨_,rfl⟩,_=>by simp
 | .truth ..,_,_,_,⟨_,rfl⟩,_=>by simp
 | .side ..,_,_,_,⟨_,rfl⟩,_=>by simp
 | .bracket ..,_,_,_,⟨_,_,r1⟩,he=>NL.blk r1 he
 | .pair ..,_,_,_,⟨_,_,_,_,_,r1,r2,rfl⟩,he=>fun y hy=>(zmA.1 hy).elim (NL.blk r1 he y) (NL.blk r2 he y)
 | .call ..,_,_,_,⟨_,_,_,_,_,r1,r2,rfl⟩,he=>fun y hy=>(zmA.1 hy).elim (NL.blk r1 he y) (NL.blk r2 he y)
 | .binary ..,_,_,_,⟨_,_,_,_,_,r1,r2,rfl⟩,he=>fun y hy=>(zmA.1 hy).elim (NL.blk r1 he y) (NL.blk r2 he y)
 | .cond ..,_,_,_,⟨_,_,_,_,_,_,_,r1,r2,r3,rfl⟩,he=>fun y hy=>(zmA.1 hy).elim (fun h=>(zmA.1 h).elim (NL.blk r1 he y) (NL.blk r2 he y)) (NL.blk r3 he y)
 | .fn _ _ bn _ _,_,_,_,⟨k,v1,⟨_,_,hb⟩,r1⟩,he=>NL.blk r1 (he.cons bn ⟨_,_,hb,by decide⟩)
 | .lett _ _ rc bn _ d b,_,e,_,⟨k,v1,v2,L1,L2,⟨_,_,hb⟩,r1,r2,rfl⟩,he=>fun y hy=>by
  have hc:=he.cons bn (a:=⟨k,3,none⟩) ⟨_,_,hb,by decide⟩
  refine (zmA.1 hy).elim (NL.blk r1 ?_ y) (NL.blk r2 hc y)
  cases rc
  ·exact he
  ·exact hc
def zbq (A:Addr) (L:List NB):List NB:=L.filter fun x=>decide (x.k=some A)
theorem zbx (A:Addr) (L M:List NB):zbq A (L++M)=zbq A L++zbq A M:=by simp [zbq]
theorem zth {A:Addr} {L M:List NB} (h:L <+: M):zbq A L <+: zbq A M:=by
 obtain ⟨r,rfl⟩:=h
 exact ⟨zbq A r,(zbx A L r).symm⟩
theorem znb (w:World) {tv:Value} (ht:∃T n,tv = .iface T (.pointer (some ⟨n,0,none⟩))) (A:Addr) :
  Calls Tryz.prog 36 #[tv,.pointer (some A)] w fun e w'=>e = .returned (.func (.func 59) #[] #[.pointer (some ⟨w.heap.size,0,none⟩),.pointer (some ⟨w.heap.size+1,0,none⟩)])/\w'=(w.alloc (.cells #[tv] 68)).alloc (.cells #[.pointer (some A)] 79):=by
 obtain ⟨T0,n0,rfl⟩:=ht
 go_enter Tryz.func36,Tryz.ntmps36
 go_wp2_with fail
 go_ret
 refine ⟨?_,rfl⟩
 simp
abbrev UIn (A:Addr) (L0:List NB) := {x:NB // x∈zbq A L0}
abbrev encU (A:Addr) (L0:List NB) (x:UIn A L0):Array Value:=#[.pointer (some ⟨x.1.nb,0,none⟩)]
def filU (A:Addr) (L0:List NB):List (NBIn L0)->List (UIn A L0)
 | []=>[]
 | x::l=>if h:x.1.k=some A then ⟨x.1,by simp [zbq,x.2,h]⟩::filU A L0 l else filU A L0 l
theorem zko (A:Addr) (L0:List NB):∀(a b:List (NBIn L0)),filU A L0 (a++b)=filU A L0 a++filU A L0 b
 | [],b=>rfl
 | x::a,b=>by
  simp only [List.cons_append,filU,zko A L0 a b]
  split <;> simp
theorem zqy (A:Addr) (L0:List NB):∀(a:List (NBIn L0)),(filU A L0 a).map (·.1)=zbq A (a.map (·.1))
 | []=>rfl
 | x::a=>by
  simp only [filU,List.map_cons,zbq,List.filter_cons]
  have:=zqy A L0 a
  unfold zbq at this
  split
  ·rename_i h
   show x.1::(filU A L0 a).map (·.1)=_
   rw [this,if_pos (by simpa using h)]
  ·rename_i h
   rw [this,if_neg (by simpa using h)]
theorem zu9 (A:Addr) (L0:List NB):∀(a:List (NBIn L0)),(filU A L0 a).length<=a.length
 | []=>znL _
 | x::a=>by
  have:=zu9 A L0 a
  simp only [filU]
  split <;> simp <;> omega
theorem zti {w:World} {hi R Bb:Nat} {A:Addr} {t:Tw.T} {tv:Value} {L0:List NB} (hR:w.heap[R]? = some (.cells #[tv] 68 (0,0))) (hA:w.heap[Bb]? = some (.cells #[.pointer (some A)] 79 (0,0))) (hn:NL w hi t tv .nil L0) (hAb:BinBlk w A) :
  SeqO Tryz.prog 59 #[.pointer (some ⟨R,0,none⟩),.pointer (some ⟨Bb,0,none⟩)] (encU A L0) Kp (fun ys=>ys.map (·.1)=zbq A L0) (fun pre=>pre.map (·.1) <+: zbq A L0) L0.length w:=by
 intro l J Jx W hW hJ hJx hY h0
 have KW:Kp w W:=fun k c t m x _=>(hW.block k (zgE.1 x).1).trans x
 have hR':=KW _ _ _ _ hR (by decide)
 have hA':=KW _ _ _ _ hA (by decide)
 have hn':=hn.kp KW
 have hAb':=hAb.kp KW
 have hblk:=hn'.blk (fun x a h=>by cases h)
 obtain ⟨T0,n0,rfl⟩:=hn.iface
 clear hR hA hn hW KW hAb
 refine (callsIn_wide (n:=3)).1 ?_
 refine callsIn_of_wp_marks Tryz.func59 rfl trivial ?_
 simp only [Tryz.ntmps59,List.size_toArray,List.length_cons,List.length_nil,Nat.reduceAdd,Nat.reduceSub,Array.replicate_succ,Array.replicate_zero,List.push_toArray,List.append_toArray,List.nil_append,List.cons_append]
 obtain ⟨W1,hW1⟩:∃W1,W.alloc (.cells #[zdb l] 135)=W1:=⟨_,rfl⟩
 have G1:W.grownBy W1 none:=by rw [<-hW1]; exact zwA _ _ none
 have hY1:W1.heap[W.heap.size]? = some (.cells #[zdb l] 135 (0,0)):=by rw [<-hW1]; exact zad W _
 have K1:=Kp.of_grown G1
 have hR1:=K1 _ _ _ _ hR' (by decide)
 have hA1:=K1 _ _ _ _ hA' (by decide)
 have hn1:=hn'.kp K1
 have K01:Kp W W1:=K1
 have hJ1:J [] W1:=hJ _ _ _ none h0 G1 (fun r e=>by cases e)
 have c0:W1.cell? ⟨R,0,none⟩=some (.iface T0 (.pointer (some ⟨n0,0,none⟩))):=zcR hR1
 have z1:W1.heap.size=W.heap.size+1:=by rw [<-hW1]; simp
 clear hR' hA' hn' h0 G1 K1
 gi_wp2_with fail
 refine ⟨trivial,?_⟩
 refine (callsIn_wide.2 (zob W1 ⟨T0,n0,rfl⟩)).mono ?_
 rintro e1 w3 ⟨rfl,rfl⟩
 obtain ⟨W2,hW2⟩:∃W2,W1.alloc (.cells #[.iface T0 (.pointer (some ⟨n0,0,none⟩))] 68)=W2:=⟨_,rfl⟩
 have G2:W1.grownBy W2 none:=by rw [<-hW2]; exact zwA _ _ none
 have hne:W2.heap[W1.heap.size]? = some (.cells #[.iface T0 (.pointer (some ⟨n0,0,none⟩))] 68 (0,0)):=by rw [<-hW2]; exact zad W1 _
 have K2:=Kp.of_grown G2
 have hY2:=K2 _ _ _ _ hY1 (by decide)
 have hA2:=K2 _ _ _ _ hA1 (by decide)
 have hn2:=hn1.kp K2
 have K02:Kp W W2:=K01.trans K2
 have hJ2:J [] W2:=hJ _ _ _ none hJ1 G2 (fun r e=>by cases e)
 have z2:W2.heap.size=W.heap.size+2:=by rw [<-hW2]; simp; omega
 rw [hW2]
 clear hW1 hW2 hY1 hR1 hA1 hn1 hJ1 c0 G2 K2
 gi_wp2_with fail
 rw [z1] at hne
 refine ydb (p:=8) (q:=9) (d1:=4) (d2:=5) rfl (enters_of Tryz.func83 (by kernel_rfl) rfl) (zpr (n:=0) (zkf hne hn2)) (fun h k=>h.trans k) zlj (Below.refl _ _)
  (fun pre X=>(J (filU A L0 pre) X/\Kp W X)/\X.heap[W.heap.size]? = some (.cells #[zdb l] 135 (0,0))/\X.heap[Bb]? = some (.cells #[.pointer (some A)] 79 (0,0)))
  (fun c pre X=>c = .ret/\Jx (filU A L0 pre) X) ?own ?ownx ⟨⟨hJ2,K02⟩,hY2,hA2⟩ ?assign ?body ?done ?stop
 case own =>
  rintro s X Y row ⟨⟨h1,h0⟩,h2,h3⟩ hg hr
  exact ⟨⟨hJ _ X Y row h1 hg (fun r e=>⟨by have:=(hr r e).1; omega,(hr r e).2⟩),fun k c t m hk ht=>zea (β := Unit) _ _ _ _ _ () X Y row (h0 k c t m hk ht) hg hr⟩,zea (β := Unit) _ _ _ _ _ () X Y row h2 hg hr,zea (β := Unit) _ _ _ _ _ () X Y row h3 hg hr⟩
 case ownx =>
  rintro c s X Y row ⟨h1,h2⟩ hg hr
  exact ⟨h1,hJx _ X Y row h2 hg (fun r e=>⟨by have:=(hr r e).1; omega,(hr r e).2⟩)⟩
 case assign =>
  intro l x X K hK
  simp only [zsA,zsZ,zsS] at hK ⊢
  gi_wp2
  exact hK
 case body =>
  rintro lr pre ⟨x,hx⟩ X hlr hrec ⟨⟨hj,hkx⟩,hyc,hac⟩ hlt
  obtain ⟨cA,tA,hA3,_⟩:=hAb'.kp hkx
  have c3:X.cell? ⟨W.heap.size,0,none⟩=some (zdb l):=zcR hyc
  have c2:X.cell? ⟨Bb,0,none⟩=some (.pointer (some A)):=zcR hac
  by_cases hk:x.k=some A
  ·obtain ⟨fn,tmps,asg,bd,hy,hR⟩:=hY (filU A L0 pre) ⟨x,by simp [zbq,hx,hk]⟩ X hj (Nat.lt_of_le_of_lt (zu9 A L0 pre) hlt) trivial
   have HR:=bV hR
   have HC:=bV (And.intro hyc hac)
   have hq:=zna X zqx zu8 A
   have HKX:=bV hkx
   have fe:filU A L0 (pre ++ [⟨x,hx⟩])=filU A L0 pre ++ [⟨x,by simp [zbq,hx,hk]⟩]:=by rw [zko]; simp [filU,hk]
   have HF:=bV fe
   clear hR hyc hac hj fe hkx hA3
   simp only [zsA,zsZ,zsS,hk]
   gi_wp2_with fail
   refine ⟨rfl,?_⟩
   have HR':RoundIn (Fence.wide.inRound lr) 0 Tryz.prog l fn tmps asg bd X _:=uh HR
   refine HR'.mono ?_
   rintro e2 X2 ⟨kf,⟨rfl,hj2,hk2⟩ | ⟨rfl,hx2⟩⟩
   ·have hyc2:=hk2 _ _ _ _ (uh HC).1 (by decide)
    have hac2:=hk2 _ _ _ _ (uh HC).2 (by decide)
    gi_wp2
    exact ⟨zcz (by omega) kf,hk2,⟨by rw [uh HF]; exact hj2,(uh HKX).trans hk2⟩,hyc2,hac2⟩
   ·gi_wp2
    exact ⟨zcz (by omega) kf,rfl,by rw [uh HF]; exact hx2⟩
  ·have fe:filU A L0 (pre ++ [⟨x,hx⟩])=filU A L0 pre:=by rw [zko]; simp [filU,hk]
   have HJ':=bV hj
   have HF:=bV fe
   clear hj fe
   cases hxk:x.k with
   | none =>
    have hq:=ztg X zqx A
    simp only [zsA,zsZ,zsS]
    gi_wp2
    refine ⟨fun _ h=>(by cases h),?_⟩
    gi_wp2
    exact ⟨KeepsFrom.refl _ _,Kp.refl _,⟨by rw [uh HF]; exact uh HJ',hkx⟩,hyc,hac⟩
   | some a' =>
    obtain ⟨cB,tB,hB3,_⟩:=(hblk x hx a' hxk).kp hkx
    have hq:=zlu X zqx zu8 (by decide) (fun e=>hk (by rw [hxk,e])) hB3 hA3
    simp only [zsA,zsZ,zsS]
    gi_wp2
    refine ⟨fun _ h=>(by cases h),?_⟩
    gi_wp2
    exact ⟨KeepsFrom.refl _ _,Kp.refl _,⟨by rw [uh HF]; exact uh HJ',hkx⟩,hyc,hac⟩
 case done =>
  rintro D xs X hD hxs ⟨⟨hj,_⟩,_,_⟩ hK
  gi_wp2_with fail
  refine ⟨by simp,.inl ⟨_,_,rfl,run_takeDeferred hK,?_⟩⟩
  exact ⟨.tuple #[],by simp [results,Tryz.results59,go_sem],⟨_,rfl⟩,.inl ⟨filU A L0 xs,by rw [zqy,hxs],hJ.putObj _ hj (by omega) hK rfl⟩⟩
 case stop =>
  rintro D c pre X hD hpre ⟨rfl,hjx⟩ hK
  gi_wp2_with fail
  refine ⟨by simp,.inl ⟨_,_,rfl,run_takeDeferred hK,?_⟩⟩
  exact ⟨.tuple #[],by simp [results,Tryz.results59,go_sem],⟨_,rfl⟩,.inr ⟨filU A L0 pre,by rw [zqy]; exact zth hpre,hJx.putObj _ hjx (by omega) hK rfl⟩⟩
open Go.RowKit Go.Shelf
attribute [local go_sem] Oper.semAt_some
def TN.bind (x:TN):Option Addr :=
 match x.t,x.v with
 | .fn ..,.iface _ (.pointer (some a))=>some ⟨a.block,2,none⟩
 | .lett ..,.iface _ (.pointer (some a))=>some ⟨a.block,3,none⟩
 | _,_=>none
theorem zjh {w:World} {hi:Nat} {x:TN} (h:Rep w 0 hi x.t x.v) (W:World):Calls Tryz.prog 58 #[x.v] W fun e W'=>e = .returned (.pointer x.bind)/\W=W':=by
 obtain ⟨t,v⟩:=x
 cases t with
 | name=>obtain ⟨b,_,_,rfl,_⟩:=h; exact zru W b
 | int=>obtain ⟨b,_,_,rfl,_⟩:=h; exact ztf W b
 | truth=>obtain ⟨b,_,_,rfl,_⟩:=h; exact zqw W b
 | side=>obtain ⟨b,_,_,rfl,_⟩:=h; exact zrv W b
 | bracket=>obtain ⟨_,⟨b,_,_,rfl,_⟩,_⟩:=h; exact zoj W b
 | pair=>obtain ⟨_,_,⟨b,_,_,rfl,_⟩,_⟩:=h; exact zrw W b
 | call=>obtain ⟨_,_,⟨b,_,_,rfl,_⟩,_⟩:=h; exact zrx W b
 | binary=>obtain ⟨_,_,⟨b,_,_,rfl,_⟩,_⟩:=h; exact zpl W b
 | cond=>obtain ⟨_,_,_,⟨b,_,_,rfl,_⟩,_⟩:=h; exact zu7 W b
 | fn=>obtain ⟨_,⟨b,_,_,rfl,_⟩,_⟩:=h; exact zjg W b
 | lett=>obtain ⟨_,_,⟨b,_,_,rfl,_⟩,_⟩:=h; exact zgy W b
def zdr (L:List TN):List TN:=L.filter fun x=>x.bind.isSome
theorem zd0 (L M:List TN):zdr (L++M)=zdr L++zdr M:=by simp [zdr]
theorem ztj {L M:List TN} (h:L <+: M):zdr L <+: zdr M:=by
 obtain ⟨r,rfl⟩:=h
 exact ⟨zdr r,(zd0 L r).symm⟩
theorem zry (w:World) {tv:Value} (ht:∃T n,tv = .iface T (.pointer (some ⟨n,0,none⟩))) :
  Calls Tryz.prog 35 #[tv] w fun e w'=>e = .returned (.func (.func 56) #[] #[.pointer (some ⟨w.heap.size,0,none⟩)])/\w'=w.alloc (.cells #[tv] 68):=by
 obtain ⟨T0,n0,rfl⟩:=ht
 go_enter Tryz.func35,Tryz.ntmps35
 go_wp2_with fail
 go_ret
 exact ⟨rfl,rfl⟩
abbrev BIn (L0:List TN) := {x:TN // x∈zdr L0}
abbrev encB (L0:List TN) (x:BIn L0):Array Value:=#[.pointer x.1.bind]
def filB (L0:List TN):List (TNIn L0)->List (BIn L0)
 | []=>[]
 | x::l=>if h:x.1.bind.isSome=true then ⟨x.1,by simp [zdr,x.2,h]⟩::filB L0 l else filB L0 l
theorem zkp (L0:List TN):∀(a b:List (TNIn L0)),filB L0 (a++b)=filB L0 a++filB L0 b
 | [],b=>rfl
 | x::a,b=>by
  simp only [List.cons_append,filB,zkp L0 a b]
  split <;> simp
theorem zqz (L0:List TN):∀(a:List (TNIn L0)),(filB L0 a).map (·.1)=zdr (a.map (·.1))
 | []=>rfl
 | x::a=>by
  simp only [filB,List.map_cons,zdr,List.filter_cons]
  have:=zqz L0 a
  unfold zdr at this
  split
  ·rename_i h
   show x.1::(filB L0 a).map (·.1)=_
   rw [this]
  ·rename_i h
   rw [this]
theorem zva (L0:List TN):∀(a:List (TNIn L0)),(filB L0 a).length<=a.length
 | []=>znL _
 | x::a=>by
  have:=zva L0 a
  simp only [filB]
  split <;> simp <;> omega
theorem ybf {w:World} {hi R:Nat} {t:Tw.T} {tv:Value} {L0:List TN} (hR:w.heap[R]? = some (.cells #[tv] 68 (0,0))) (hn:NDL w hi t tv L0) :
  SeqO Tryz.prog 56 #[.pointer (some ⟨R,0,none⟩)] (encB L0) Kp (fun ys=>ys.map (·.1)=zdr L0) (fun pre=>pre.map (·.1) <+: zdr L0) L0.length w:=by
 intro l J Jx W hW hJ hJx hY h0
 have KW:Kp w W:=fun k c t m x _=>(hW.block k (zgE.1 x).1).trans x
 have hR':=KW _ _ _ _ hR (by decide)
 have hn':=hn.kp KW
 have hrep:=hn.rep.2
 obtain ⟨T0,n0,rfl⟩:=hn.iface
 clear hR hn hW KW
 refine (callsIn_wide (n:=3)).1 ?_
 refine callsIn_of_wp_marks Tryz.func56 rfl trivial ?_
 simp only [Tryz.ntmps56,List.size_toArray,List.length_cons,List.length_nil,Nat.reduceAdd,Nat.reduceSub,Array.replicate_succ,Array.replicate_zero,List.push_toArray,List.append_toArray,List.nil_append,List.cons_append]
 obtain ⟨W1,hW1⟩:∃W1,W.alloc (.cells #[zdb l] 130)=W1:=⟨_,rfl⟩
 have G1:W.grownBy W1 none:=by rw [<-hW1]; exact zwA _ _ none
 have hY1:W1.heap[W.heap.size]? = some (.cells #[zdb l] 130 (0,0)):=by rw [<-hW1]; exact zad W _
 have K1:=Kp.of_grown G1
 have hR1:=K1 _ _ _ _ hR' (by decide)
 have hn1:=hn'.kp K1
 have hJ1:J [] W1:=hJ _ _ _ none h0 G1 (fun r e=>by cases e)
 have c0:W1.cell? ⟨R,0,none⟩=some (.iface T0 (.pointer (some ⟨n0,0,none⟩))):=zcR hR1
 have z1:W1.heap.size=W.heap.size+1:=by rw [<-hW1]; simp
 clear hR' hn' h0 G1 K1
 gi_wp2_with fail
 refine ⟨trivial,?_⟩
 refine (callsIn_wide.2 (zok W1 ⟨T0,n0,rfl⟩)).mono ?_
 rintro e1 w3 ⟨rfl,rfl⟩
 obtain ⟨W2,hW2⟩:∃W2,W1.alloc (.cells #[.iface T0 (.pointer (some ⟨n0,0,none⟩))] 68)=W2:=⟨_,rfl⟩
 have G2:W1.grownBy W2 none:=by rw [<-hW2]; exact zwA _ _ none
 have hne:W2.heap[W1.heap.size]? = some (.cells #[.iface T0 (.pointer (some ⟨n0,0,none⟩))] 68 (0,0)):=by rw [<-hW2]; exact zad W1 _
 have K2:=Kp.of_grown G2
 have hY2:=K2 _ _ _ _ hY1 (by decide)
 have hn2:=hn1.kp K2
 have hJ2:J [] W2:=hJ _ _ _ none hJ1 G2 (fun r e=>by cases e)
 have z2:W2.heap.size=W.heap.size+2:=by rw [<-hW2]; simp; omega
 rw [hW2]
 clear hW1 hW2 hY1 hR1 hn1 hJ1 c0 G2 K2
 gi_wp2_with fail
 rw [z1] at hne
 refine zhp (p:=7) (d1:=3) rfl (enters_of Tryz.func108 (by kernel_rfl) rfl) (zpr (n:=0) (zkn hne hn2)) (fun h k=>h.trans k) zlj (Below.refl _ _)
  (fun pre X=>J (filB L0 pre) X/\X.heap[W.heap.size]? = some (.cells #[zdb l] 130 (0,0)))
  (fun c pre X=>c = .ret/\Jx (filB L0 pre) X) ?own ?ownx ⟨hJ2,hY2⟩ ?assign ?body ?done ?stop
 case own =>
  rintro s X Y row ⟨h1,h2⟩ hg hr
  exact ⟨hJ _ X Y row h1 hg (fun r e=>⟨by have:=(hr r e).1; omega,(hr r e).2⟩),zea (β := Unit) _ _ _ _ _ () X Y row h2 hg hr⟩
 case ownx =>
  rintro c s X Y row ⟨h1,h2⟩ hg hr
  exact ⟨h1,hJx _ X Y row h2 hg (fun r e=>⟨by have:=(hr r e).1; omega,(hr r e).2⟩)⟩
 case assign =>
  intro l x X K hK
  simp only [zsA,zsZ,zsS] at hK ⊢
  gi_wp2
  exact hK
 case body =>
  rintro lr pre ⟨x,hx⟩ X hlr hrec ⟨hj,hyc⟩ hlt
  have c3:X.cell? ⟨W.heap.size,0,none⟩=some (zdb l):=zcR hyc
  have HB:=bV (zjh (hrep x hx) X)
  have HY:=bV hyc
  simp only [zsA,zsZ,zsS]
  clear hyc
  cases hxk:x.bind with
  | some A =>
   have hb1:x.bind.isSome=true:=by rw [hxk]; rfl
   obtain ⟨fn,tmps,asg,bd,hy,hR⟩:=hY (filB L0 pre) ⟨x,by simp [zdr,hx,hb1]⟩ X hj (Nat.lt_of_le_of_lt (zva L0 pre) hlt) trivial
   have HR:=bV hR
   have fe:filB L0 (pre ++ [⟨x,hx⟩])=filB L0 pre ++ [⟨x,by simp [zdr,hx,hb1]⟩]:=by rw [zkp]; simp [filB,hb1]
   have HF:=bV fe
   unfold encB at hy
   rw [hxk] at hy
   clear hR hj fe
   gi_wp2_with fail
   refine ⟨trivial,rfl,?_⟩
   refine (CallsIn.inRound lr (callsIn_wide.2 (uh HB))).mono ?_
   rintro e1 X1 ⟨rfl,rfl⟩
   rw [hxk]
   gi_wp2_with fail
   refine ⟨rfl,?_⟩
   have HR':RoundIn (Fence.wide.inRound lr) 0 Tryz.prog l fn tmps asg bd X _:=uh HR
   refine HR'.mono ?_
   rintro e2 X2 ⟨kf,⟨rfl,hj2,hk2⟩ | ⟨rfl,hx2⟩⟩
   ·have hyc2:=hk2 _ _ _ _ (uh HY) (by decide)
    gi_wp2
    exact ⟨zcz (by omega) kf,hk2,by rw [uh HF]; exact hj2,hyc2⟩
   ·gi_wp2
    exact ⟨zcz (by omega) kf,rfl,by rw [uh HF]; exact hx2⟩
  | none =>
   have hb1:¬x.bind.isSome=true:=by rw [hxk]; simp
   have fe:filB L0 (pre ++ [⟨x,hx⟩])=filB L0 pre:=by rw [zkp]; simp [filB,hb1]
   have HJ':=bV hj
   have HF:=bV fe
   clear hj fe
   gi_wp2_with fail
   refine ⟨trivial,rfl,?_⟩
   refine (CallsIn.inRound lr (callsIn_wide.2 (uh HB))).mono ?_
   rintro e1 X1 ⟨rfl,rfl⟩
   rw [hxk]
   gi_wp2_with fail
   refine ⟨fun _ h=>(by cases h),?_⟩
   gi_wp2
   exact ⟨KeepsFrom.refl _ _,Kp.refl _,by rw [uh HF]; exact uh HJ',uh HY⟩
 case done =>
  rintro D xs X hD hxs ⟨hj,_⟩ hK
  gi_wp2_with fail
  refine ⟨by simp,.inl ⟨_,_,rfl,run_takeDeferred hK,?_⟩⟩
  exact ⟨.tuple #[],by simp [results,Tryz.results56,go_sem],⟨_,rfl⟩,.inl ⟨filB L0 xs,by rw [zqz,hxs],hJ.putObj _ hj (by omega) hK rfl⟩⟩
 case stop =>
  rintro D c pre X hD hpre ⟨rfl,hjx⟩ hK
  gi_wp2_with fail
  refine ⟨by simp,.inl ⟨_,_,rfl,run_takeDeferred hK,?_⟩⟩
  exact ⟨.tuple #[],by simp [results,Tryz.results56,go_sem],⟨_,rfl⟩,.inr ⟨filB L0 pre,by rw [zqz]; exact ztj hpre,hJx.putObj _ hjx (by omega) hK rfl⟩⟩
open Go.RowKit Go.Shelf
attribute [local go_sem] Oper.semAt_some
def za5 (L:List NB):List NB:=L.filter fun x=>decide (x.k=none)
theorem zgz (L M:List NB):za5 (L++M)=za5 L++za5 M:=by simp [za5]
theorem ztk {L M:List NB} (h:L <+: M):za5 L <+: za5 M:=by
 obtain ⟨r,rfl⟩:=h
 exact ⟨za5 r,(zgz L r).symm⟩
theorem ybg (L:List NB):(za5 L).length<=L.length:=List.length_filter_le _ _
theorem zkq (w:World) {tv:Value} (ht:∃T n,tv = .iface T (.pointer (some ⟨n,0,none⟩))) :
  Calls Tryz.prog 112 #[tv] w fun e w'=>e = .returned (.func (.func 185) #[] #[.pointer (some ⟨w.heap.size,0,none⟩)])/\w'=w.alloc (.cells #[tv] 68):=by
 obtain ⟨T0,n0,rfl⟩:=ht
 go_enter Tryz.func112,Tryz.ntmps112
 go_wp2_with fail
 go_ret
 exact ⟨rfl,rfl⟩
abbrev FIn (L0:List NB) := {x:NB×Value // x.1∈za5 L0/\∃a,x.2 = .pointer a}
def FOk {L0:List NB} (x:FIn L0) (W:World):Prop:=BAt W x.1.1.e x.1.2/\W.heap[x.1.1.nb]? = some (.cells #[.int .i64 x.1.1.fr,.int .i64 x.1.1.to,ug x.1.1.tx] 87 (0,0))
theorem yde {A B:World} {row:Option Nat} {C:Nat} (hg:A.grownBy B row) (hr:∀r,row=some r->C<=r/\∃o:Obj,A.heap[r]? = some o/\o.isCells=false):Kp A B:=fun k c t m hk _=>zea (β := Unit) C k c t m () A B row hk hg hr
theorem FOk.own {L0:List NB} (x:FIn L0) (C:Nat):OwnFrom C (fun (_:Unit) W=>FOk x W):=fun _ _ _ _ hs hg hr=>⟨hs.1.kp (yde hg hr),yde hg hr _ _ _ _ hs.2 (by decide)⟩
abbrev yf5 (l c:Nat) (W:World):Prop:=W.heap[c]? = some (.cells #[zdb l] 187 (0,0))
structure zt3 (l:Nat) (L0:List NB) (J Jx:List (FIn L0)->World->Prop):Prop where
 grown:∀ {s:List (FIn L0)} {W W':World},J s W->W.grownBy W' none->J s W'
 yield:∀(pre:List (FIn L0)) (x:FIn L0) (W:World),J pre W->pre.length<L0.length->FOk x W->YieldAt Fence.wide 0 Tryz.prog l #[.pointer (some ⟨x.1.1.nb,0,none⟩),x.1.2] W fun e W' =>
  (e = .returned (.bool true)/\J (pre ++ [x]) W'/\Kp W W')\/(e = .returned (.bool false)/\Jx (pre ++ [x]) W')
theorem yfx {l:Nat} {L0:List NB} {J Jx:List (FIn L0)->World->Prop} (hY:zt3 l L0 J Jx) (c:Nat):zmm 186 c L0 (fun p W=>(∃q:List (FIn L0),q.map (·.1.1)=za5 p/\J q W)/\yf5 l c W) (fun p W=>∃q:List (FIn L0),q.map (·.1.1)=za5 p/\Jx q W):=by
 refine ⟨fun args W=>rfl,fun {s W W'} ⟨⟨q,hq,hj⟩,hc⟩ hg=>⟨⟨q,hq,hY.grown hj hg⟩,zbG hg hc⟩,?_⟩
 rintro pre x w ev ⟨⟨q,hq,hJ⟩,hc⟩ hp hb he
 have c2:w.cell? ⟨x.nb,2,none⟩=some (ug x.tx):=zcR hb
 have c3:w.cell? ⟨c,0,none⟩=some (zdb l):=zcR hc
 have HC:=bV hc
 have hx0:x∈L0:=hp.subset (by simp)
 have hlen:q.length<L0.length:=by
  have h1:=hp.length_le
  have h2:=ybg pre
  have h3:=congrArg List.length hq
  rw [List.length_map] at h3
  rw [List.length_append,List.length_singleton] at h1
  omega
 cases hl:x.e.look x.tx with
 | some k =>
  have HF:=bV (zn7 he x.tx hl)
  have fe:za5 (pre ++ [x])=za5 pre:=by
   have:x.k=some k:=hl
   rw [zgz]; simp [za5,this]
  obtain ⟨a,rfl⟩:=he.ptr
  clear he hb hc
  refine (callsIn_wide (n:=1)).1 ?_
  refine callsIn_of_wp Tryz.func186 rfl trivial ?_
  simp only [Tryz.ntmps186,List.size_toArray,List.length_cons,List.length_nil,Nat.reduceAdd,Nat.reduceSub,Array.replicate_succ,Array.replicate_zero,List.push_toArray,List.append_toArray,List.nil_append,List.cons_append]
  gi_wp2_with fail
  refine ⟨trivial,?_⟩
  refine (callsIn_wide.2 (uh HF)).mono ?_
  rintro e1 w1 ⟨rfl,rfl⟩
  gi_wp2_with fail
  refine ⟨fun _ h=>(by cases h),?_⟩
  gi_wp2
  go_ret
  exact .inl ⟨rfl,⟨⟨q,by rw [fe]; exact hq,hJ⟩,uh HC⟩,Kp.refl _⟩
 | none =>
  have HF:=bV (zma he x.tx hl)
  have hk0:x.k=none:=hl
  obtain ⟨a,ha⟩:=he.ptr
  have hmem:x∈za5 L0:=by simp [za5,hx0,hk0]
  obtain ⟨fn,tmps,asg,bd,hy,hR⟩:=hY.yield q ⟨(x,ev),hmem,a,ha⟩ w hJ hlen ⟨he,hb⟩
  have HR:=bV hR
  have fe:za5 (pre ++ [x])=za5 pre ++ [x]:=by rw [zgz]; simp [za5,hk0]
  subst ha
  clear he hb hc hR hJ
  refine (callsIn_wide (n:=1)).1 ?_
  refine callsIn_of_wp Tryz.func186 rfl trivial ?_
  simp only [Tryz.ntmps186,List.size_toArray,List.length_cons,List.length_nil,Nat.reduceAdd,Nat.reduceSub,Array.replicate_succ,Array.replicate_zero,List.push_toArray,List.append_toArray,List.nil_append,List.cons_append]
  gi_wp2_with fail
  refine ⟨trivial,?_⟩
  refine (callsIn_wide.2 (uh HF)).mono ?_
  rintro e1 w1 ⟨rfl,rfl⟩
  gi_wp2_with fail
  refine (uh HR).mono ?_
  rintro e2 W2 (⟨rfl,hJ2,hk2⟩ | ⟨rfl,hx2⟩)
  ·gi_wp2
   go_ret
   exact .inl ⟨rfl,⟨⟨_,by rw [fe,List.map_append,hq]; rfl,hJ2⟩,hk2 _ _ _ _ (uh HC) (by decide)⟩,hk2⟩
  ·gi_wp2
   go_ret
   exact .inr ⟨rfl,_,by rw [fe,List.map_append,hq]; rfl,hx2⟩
theorem ybh {l:Nat} {L0:List NB} {J Jx:List (FIn L0)->World->Prop} (hY:zt3 l L0 J Jx) {w:World} {hi Bt:Nat} {t:Tw.T} {tv:Value} (hB:w.heap[Bt]? = some (.cells #[tv] 68 (0,0))) (hn:NL w hi t tv .nil L0) (hJ:J [] w) :
  Calls Tryz.prog 185 #[zdb l,.pointer (some ⟨Bt,0,none⟩)] w fun e w'=>e = .returned (.tuple #[])/\((∃q:List (FIn L0),q.map (·.1.1)=za5 L0/\J q w')\/∃q:List (FIn L0),q.map (·.1.1) <+: za5 L0/\Jx q w'):=by
 have HN:=bV hn
 have HJ:=bV hJ
 obtain ⟨T0,n0,rfl⟩:=hn.iface
 have G:Hid (w.grownBy (w.alloc (.cells #[zdb l] 187)) none):=zwA _ _ none
 have c0:(w.alloc (.cells #[zdb l] 187)).cell? ⟨Bt,0,none⟩=some (.iface T0 (.pointer (some ⟨n0,0,none⟩))):=zcR (zbG G.out hB)
 clear hB hn hJ
 go_enter Tryz.func185,Tryz.ntmps185
 go_wp2_with fail
 refine (zc7 (yfx hY w.heap.size) t (pre:=[]) ((uh HN).kp (Kp.of_grown G.out)) (show BAt _ .nil (.pointer none) from rfl) ⟨⟨[],rfl,hY.grown (uh HJ) G.out⟩,zad w _⟩ (by simp)).mono ?_
 rintro e1 w1 h1
 obtain ⟨bv,rfl,h1⟩:=h1.one
 have X:Hid ((∃q:List (FIn L0),q.map (·.1.1)=za5 L0/\J q w1)\/∃q:List (FIn L0),q.map (·.1.1) <+: za5 L0/\Jx q w1):=by
  rcases h1 with ⟨_,⟨h,_⟩,_⟩ | ⟨_,p,hp,q,hq,h⟩
  ·exact .inl (by simpa using h)
  ·exact .inr ⟨q,by rw [hq]; simpa using ztk hp,h⟩
 clear h1
 go_wp2_with fail
 go_end0
 exact ⟨rfl,X.out⟩
theorem znc {w:World} {hi Bt:Nat} {t:Tw.T} {tv:Value} {L0:List NB} (hB:w.heap[Bt]? = some (.cells #[tv] 68 (0,0))) (hn:NL w hi t tv .nil L0) :
  zsr Tryz.prog 185 #[.pointer (some ⟨Bt,0,none⟩)] (fun x:FIn L0 => #[.pointer (some ⟨x.1.1.nb,0,none⟩),x.1.2]) FOk Kp (fun ys=>ys.map (·.1.1)=za5 L0) (fun pre=>pre.map (·.1.1) <+: za5 L0) L0.length w:=by
 intro l J Jx W hW hJ hJx hY h0
 have KW:Kp w W:=fun k c t m x _=>(hW.block k (zgE.1 x).1).trans x
 have Y:zt3 l L0 J Jx:=⟨fun {s W W'} hj hg=>hJ s W W' none hj hg (fun r e=>by cases e),fun pre x W1 hj hlen hok=>YieldAt.mono (hY pre x W1 hj hlen hok) fun e W' h=>h.2⟩
 refine (ybh Y (KW _ _ _ _ hB (by decide)) (hn.kp KW) h0).mono ?_
 rintro e W' ⟨rfl,⟨q,hq,hj⟩ | ⟨q,hq,hj⟩⟩
 ·exact ⟨⟨_,rfl⟩,.inl ⟨q,hq,hj⟩⟩
 ·exact ⟨⟨_,rfl⟩,.inr ⟨q,hq,hj⟩⟩
open Go.RowKit Go.Shelf
theorem zvb {w:World} {k o bat:Nat} {bn:List UInt8} {c:Array Value} {t:TypeId} (hB:w.heap[k]? = some (.cells c t (0,0))) (h0:c[o]? = some (ug bn)) (h1:c[o+1]? = some (.int .i64 bat)) (hb:bat+bn.length<=1000000) :
  Calls Tryz.prog 67 #[.pointer (some ⟨k,o,none⟩)] w fun e w'=>e = .returned (.agg #[.int .i64 bat,.int .i64 ((bat+bn.length:Nat):Int)])/\w.grownBy w' none:=by
 have hB':(w.alloc (.cells #[.int .i64 0,.int .i64 0] 85)).heap[k]? = some (.cells c t (0,0)):=(Below.heap_alloc _ _ _ (zgE.1 hB).1).trans hB
 have d0:(w.alloc (.cells #[.int .i64 0,.int .i64 0] 85)).cell? ⟨k,o,none⟩=some (ug bn):=by rw [cell_of_row _ _ _ _ _ _ hB']; exact h0
 have d1:(w.alloc (.cells #[.int .i64 0,.int .i64 0] 85)).cell? ⟨k,o+1,none⟩=some (.int .i64 bat):=by rw [cell_of_row _ _ _ _ _ _ hB']; exact h1
 have hne:¬k=w.heap.size:=fun e=>by have:=(zgE.1 hB).1; omega
 have hne':¬w.heap.size=k:=fun e=>hne e.symm
 clear hB hB' h0 h1
 go_enter Tryz.func67,Tryz.ntmps67
 go_wp2_with fail
 go_region
 go_wp2_with fail
 have hn:(w.alloc (.cells #[.int .i64 (bat:Int),.int .i64 ((bat:Int)+(bn.length:Int))] 85)).drew.heap[w.heap.size]? = some (.cells #[.int .i64 (bat:Int),.int .i64 ((bat:Int)+(bn.length:Int))] 85 (0,0)):=zad w _
 obtain ⟨e0,e1,_,_⟩:=zau hn
 refine bodyPost_ret (v:=.agg #[.int .i64 bat,.int .i64 ((bat+bn.length:Nat):Int)]) (by simp [results,Tryz.results67,go_sem,e0,e1]) rfl ⟨rfl,zac (zwA _ _ none)⟩
theorem zo9 (w:World) (f t a:Int) :
  Calls Tryz.prog 110 #[.agg #[.int .i64 f,.int .i64 t],.int .i64 a] w fun e w'=>e = .returned (.bool (decide (f<=a)&&decide (a<t)))/\w.grownBy w' none:=by
 go_enter Tryz.func110,Tryz.ntmps110
 go_wp2_with fail
 ·go_ret
  refine ⟨zc5 ?_,zwA _ _ none⟩
  have:f<=a:=by omega
  simp [this]
 ·go_ret
  refine ⟨zc5 ?_,zwA _ _ none⟩
  have:¬f<=a:=by omega
  simp [this]
theorem zlb {w:World} {e:Tw.BEn} {v:Value} (he:BAt w e v) (x:List UInt8) :
  Calls Tryz.prog 118 #[v,ug x] w fun r w'=>r = .returned (.bool (e.look x).isSome)/\w=w':=by
 have HF:Hid (Calls Tryz.prog 86 #[v,ug x] w fun r w'=>(∃p,r = .returned (.tuple #[.pointer p,.bool (e.look x).isSome]))/\w=w'):=by
  cases hl:e.look x with
  | none=>exact (zma he x hl).mono (by rintro e w' ⟨rfl,rfl⟩; exact ⟨⟨_,rfl⟩,rfl⟩)
  | some k=>exact (zn7 he x hl).mono (by rintro e w' ⟨rfl,rfl⟩; exact ⟨⟨_,rfl⟩,rfl⟩)
 obtain ⟨a,rfl⟩:=he.ptr
 clear he
 go_enter Tryz.func118,Tryz.ntmps118
 go_wp2_with fail
 refine (uh HF).mono ?_
 rintro e1 w1 ⟨⟨p,rfl⟩,rfl⟩
 go_wp2_with fail
 go_ret
 exact ⟨rfl,rfl⟩
def Tw.isNm (l:List UInt8):Bool:=decide (l ≠ [])&&(decide ((Tw.zah l).1=1)&&decide ((Tw.zah l).2=l.length))
theorem zme (s:ByteArray) (w:World) (hs:s.size<=300) :
  Calls Tryz.prog 65 #[.string s] w fun e w'=>e = .returned (.bool (Tw.isNm s.data.toList))/\w=w':=by
 by_cases h0:s.size=0
 ·have he:s=⟨#[]⟩:=by
   obtain ⟨a⟩:=s
   simpa [ByteArray.size] using h0
  subst he
  go_enter Tryz.func65,Tryz.ntmps65
  go_wp2_with fail
  go_ret
  exact ⟨rfl,rfl⟩
 ·have hl:s.data.toList ≠ []:=fun e=>h0 (by rw [<-show s.data.toList.length=s.size from Array.length_toList,e]; rfl)
  have he:s.toList.isEmpty=false:=by
   rw [ByteArray.toList_eq]
   cases h:s.data.toList with
   | nil=>exact absurd h hl
   | cons=>rfl
  have HN:Hid (Tw.isNm s.data.toList=(decide ((Tw.zah s.data.toList).1=1)&&decide ((Tw.zah s.data.toList).2=(s.size:Int)))):=by
   show _=_
   unfold Tw.isNm
   rw [show s.data.toList.length=s.size from Array.length_toList]
   simp [hl]
  clear hl
  obtain ⟨a,ha⟩:∃a,(Tw.zah s.data.toList).1=a:=⟨_,rfl⟩
  obtain ⟨b,hb⟩:∃b,(Tw.zah s.data.toList).2=b:=⟨_,rfl⟩
  have HF:=bV (zn1 s w (by omega) hs)
  rw [ha,hb] at HF HN
  clear ha hb
  go_enter Tryz.func65,Tryz.ntmps65
  go_wp2_with fail
  refine (uh HF).mono ?_
  rintro e1 w1 ⟨rfl,rfl⟩
  go_wp2_with fail
  all_goals (go_ret; refine ⟨zc5 ?_,rfl⟩; rw [uh HN]; first | (simp_all; done) | (simp_all; rfl))
open Go.RowKit Go.Shelf
attribute [local go_sem] Oper.semAt_some
def Tw.T.holds (a:Int):Tw.T->Bool
 | .fn _ _ n k _=>decide ((k:Int)<=a)&&decide (a<(k:Int)+(n.length:Int))
 | .lett _ _ _ n k _ _=>decide ((k:Int)<=a)&&decide (a<(k:Int)+(n.length:Int))
 | _=>false
def Tw.T.near:Tw.T->Prop
 | .fn _ _ n k _=>k+n.length<=1000000
 | .lett _ _ _ n k _ _=>k+n.length<=1000000
 | _=>True
theorem zxy {x:TN} (h:x.bind=none) (a:Int) {w:World} {hi:Nat} (hr:Rep w 0 hi x.t x.v):x.t.holds a=false:=by
 obtain ⟨t,v⟩:=x
 cases t with
 | fn=>obtain ⟨_,⟨b,_,_,rfl,_⟩,_⟩:=hr; simp [TN.bind] at h
 | lett=>obtain ⟨_,_,⟨b,_,_,rfl,_⟩,_⟩:=hr; simp [TN.bind] at h
 | _=>rfl
theorem zxz {x:TN} {A:Addr} (h:x.bind=some A) {w:World} {hi:Nat} (hr:Rep w 0 hi x.t x.v) (hn:x.t.near):∃k o c t bn bat,A=⟨k,o,none⟩/\w.heap[k]? = some (.cells c t (0,0))/\zh9.contains t=true/\c[o]? = some (ug bn)/\c[o+1]? = some (.int .i64 (bat:Nat))/\bat+bn.length<=1000000/\∀a,x.t.holds a=(decide ((bat:Int)<=a)&&decide (a<(bat:Int)+(bn.length:Int))):=by
 obtain ⟨t,v⟩:=x
 cases t with
 | fn fr to bn bat b =>
  obtain ⟨v1,⟨k,_,_,rfl,hb⟩,_⟩:=hr
  cases h
  exact ⟨k,2,_,_,bn,bat,rfl,hb,by decide,rfl,rfl,hn,fun _=>rfl⟩
 | lett fr to rc bn bat d b =>
  obtain ⟨v1,v2,⟨k,_,_,rfl,hb⟩,_⟩:=hr
  cases h
  exact ⟨k,3,_,_,bn,bat,rfl,hb,by decide,rfl,rfl,hn,fun _=>rfl⟩
 | _=>simp [TN.bind] at h
def hitL (a:Int) (L:List TN):Option TN:=L.find? fun x=>x.t.holds a
theorem ybi {a:Int} {L:List TN} (h:∀z∈L,z.t.holds a=false):hitL a L=none:=by
 unfold hitL
 rw [List.find?_eq_none]
 intro z hz
 rw [h z hz]
 simp
theorem ybj {a:Int} {init:List TN} {x:TN} {L:List TN} (h:∀z∈init,z.t.holds a=false) (hx:x.t.holds a=true) (hp:init ++ [x] <+: L):hitL a L=some x:=by
 obtain ⟨r,rfl⟩:=hp
 unfold hitL
 rw [List.append_assoc,List.find?_append]
 rw [List.find?_eq_none.2 (fun z hz=>by rw [h z hz]; simp)]
 simp [hx]
def zny:Option TN->Value
 | none=>.nilIface
 | some x=>x.v
theorem zek {w:World} {hi:Nat} {t:Tw.T} {tv:Value} {L0:List TN} (hn:NDL w hi t tv L0) (hnear:∀x∈L0,x.t.near) (a:Int) :
    Calls Tryz.prog 60 #[tv,.int .i64 a] w fun e w'=>e = .returned (zny (hitL a L0))/\w.grownBy w' none:=by
  have hrep:=hn.rep.2
  obtain ⟨T0,n0,rfl⟩:=hn.iface
  refine (callsIn_wide (n:=3)).1 ?_
  refine callsIn_of_wp_marks Tryz.func60 rfl trivial ?_
  simp only [Tryz.ntmps60,List.size_toArray,List.length_cons,List.length_nil,Nat.reduceAdd,Nat.reduceSub,Array.replicate_succ,Array.replicate_zero,List.push_toArray,List.append_toArray,List.nil_append,List.cons_append]
  obtain ⟨W0,hW0⟩:∃W0,(w.alloc (.cells #[.int .i64 a] 3)).alloc (.cells #[.nilIface] 68)=W0:=⟨_,rfl⟩
  have G0:w.grownBy W0 none:=by rw [<-hW0]; exact zae (zae (zab _) _) _
  have z0:W0.heap.size=w.heap.size+2:=by rw [<-hW0]; simp
  have a0:W0.heap[w.heap.size]? = some (.cells #[.int .i64 a] 3 (0,0)):=by rw [<-hW0]; exact (Below.heap_alloc _ _ _ (by simp)).trans (zad w _)
  have r0:W0.heap[w.heap.size+1]? = some (.cells #[.nilIface] 68 (0,0)):=by
    rw [<-hW0]
    have:=zad (w.alloc (.cells #[.int .i64 a] 3)) (.cells #[.nilIface] 68)
    rw [World.size_alloc] at this
    exact this
  gi_wp2_with fail
  refine ⟨trivial,?_⟩
  refine (callsIn_wide.2 (zok W0 ⟨T0,n0,rfl⟩)).mono ?_
  rintro e1 w3 ⟨rfl,rfl⟩
  obtain ⟨W1,hW1⟩:∃W1,W0.alloc (.cells #[.iface T0 (.pointer (some ⟨n0,0,none⟩))] 68)=W1:=⟨_,rfl⟩
  have G1:W0.grownBy W1 none:=by rw [<-hW1]; exact zwA _ _ none
  have z1:W1.heap.size=w.heap.size+3:=by rw [<-hW1]; simp; omega
  have hne:W1.heap[W0.heap.size]? = some (.cells #[.iface T0 (.pointer (some ⟨n0,0,none⟩))] 68 (0,0)):=by rw [<-hW1]; exact zad W0 _
  have a1:=zbG G1 a0
  have r1:=zbG G1 r0
  have hn1:=hn.kp ((Kp.of_grown G0).trans (Kp.of_grown G1))
  have hrep1:=hn1.rep.2
  have g1:=zaa G0 G1
  rw [z0] at hne
  rw [hW1]
  clear hW0 hW1 G0 G1 a0 r0 hrep hn
  gi_wp2_with fail
  refine zhp (p:=9) (d1:=5) rfl (enters_of Tryz.func108 (by kernel_rfl) rfl) (zpr (n:=0) (zkn hne hn1)) (fun h k=>h.trans k) zlj (Below.refl _ _)
    (fun pre X=>(∀z∈pre,z.1.t.holds a=false)/\W1.grownBy X none)
    (fun c pre X=>c = .ret/\∃init x,pre=init ++ [x]/\(∀z∈init,z.1.t.holds a=false)/\x.1.t.holds a=true/\Set1 W1 (w.heap.size+1) x.1.v 68 X) ?own ?ownx ⟨by simp,zab _⟩ ?assign ?body ?done ?stop
  case own =>
    rintro s X Y row ⟨h1,h2⟩ hg hr
    exact ⟨h1,zc1 (β := Unit) W1 (znL _) () X Y row h2 hg hr⟩
  case ownx =>
    rintro c s X Y row ⟨h0,init,x,h1,h2,h3,h4⟩ hg hr
    exact ⟨h0,init,x,h1,h2,h3,Set1.own (β := Unit) (znL _) (by omega) () X Y row h4 hg hr⟩
  case assign =>
    intro l x X K hK
    simp only [zsA,zsZ,zsS] at hK ⊢
    gi_wp2
    exact hK
  case body =>
    rintro lr pre ⟨x,hx⟩ X hlr hrec ⟨hpre,hgX⟩ hlt
    have HB:=bV (zjh (hrep1 x hx) X)
    obtain ⟨TX,nx,hxv⟩:=(hrep1 x hx).iface
    rw [hxv] at HB
    have HXV:=bV hxv
    have HP:=bV hpre
    have HG:=bV hgX
    have aX:=zbG hgX a1
    have rX:=zbG hgX r1
    have ca:X.cell? ⟨w.heap.size,0,none⟩=some (.int .i64 a):=zcR aX
    simp only [zsA,zsZ,zsS,hxv]
    clear hxv
    cases hxk:x.bind with
    | none =>
      have hh:=zxy hxk a (hrep1 x hx)
      clear hgX hpre aX
      gi_wp2_with fail
      refine ⟨trivial,rfl,?_⟩
      refine (CallsIn.inRound lr (callsIn_wide.2 (uh HB))).mono ?_
      rintro e1 X1 ⟨rfl,rfl⟩
      rw [hxk]
      gi_wp2_with fail
      have hmx:Tryz.prog.follows .mixedOrders=true:=by kernel_rfl
      gi_region_with_o (refine ⟨trivial,?_⟩)
      all_goals gi_wp2
      all_goals exact ⟨zax (zac (zab _)),Kp.of_grown (zac (zab _)),fun z hz=>(by
        rcases zmA.1 hz with hz | hz
        · exact uh HP z hz
        · simp only [List.mem_singleton] at hz
          subst hz
          exact hh),zac (uh HG)⟩
    | some A =>
      obtain ⟨k,o,c,tt,bn,bat,rfl,hkb,_,hc0,hc1,hbb,hho⟩:=zxz hxk (hrep1 x hx) (hnear x hx)
      have kX:=zbG hgX hkb
      have HS:=bV (zvb (w:=X.drew) kX hc0 hc1 hbb)
      obtain ⟨hb,hhb⟩:∃hb,x.t.holds a=hb:=⟨_,rfl⟩
      have HH:Hid ((decide ((bat:Int)<=a)&&decide (a<(bat:Int)+(bn.length:Int)))=hb):=by show _=_; rw [<-hho a]; exact hhb
      have HB':=bV hhb
      have HR:=bV rX
      have HA:=bV aX
      clear hgX hpre hkb kX hc0 hc1 hho hhb rX aX
      gi_wp2_with fail
      refine ⟨trivial,rfl,?_⟩
      refine (CallsIn.inRound lr (callsIn_wide.2 (uh HB))).mono ?_
      rintro e1 X1 ⟨rfl,rfl⟩
      rw [hxk]
      gi_wp2_with fail
      have hmx:Tryz.prog.follows .mixedOrders=true:=by kernel_rfl
      gi_region_with_o (first
        | (refine ⟨trivial,rfl,?_⟩; gi_at_call 67; refine (CallsIn.inRound lr (callsIn_wide.2 (uh HS))).mono ?_; clear HS; rintro e1 X2 ⟨rfl,hg2⟩
           have G2:Hid (X.grownBy X2 none):=zaa (zac (zab _)) hg2
           have ca2:X2.cell? ⟨w.heap.size,0,none⟩=some (.int .i64 a):=(zag (zbG hg2 (uh HA))).1
           clear hg2)
        | (refine ⟨trivial,rfl,?_⟩; gi_at_call 110; refine (CallsIn.inRound lr (callsIn_wide.2 (zo9 _ _ _ _))).mono ?_; rintro e1 X3 ⟨rfl,hg3⟩
           rw [uh HH]
           have G3:Hid (X.grownBy X3 none):=zaa (uh G2) hg3
           clear hg3))
      all_goals (
        have rX3:=zbG G3.out (uh HR)
        obtain ⟨cr,fr⟩:=zag rX3
        cases hb with
        | false =>
          gi_wp2
          exact ⟨zax G3.out,Kp.of_grown G3.out,fun z hz=>(by
            rcases zmA.1 hz with hz | hz
            · exact uh HP z hz
            · simp only [List.mem_singleton] at hz
              subst hz
              exact uh HB'),zaa (uh HG) G3.out⟩
        | true =>
          gi_wp2
          exact ⟨za7 (zax G3.out) (za8 _ _ _),rfl,pre,⟨x,hx⟩,rfl,uh HP,uh HB',by simp only; rw [uh HXV]; exact Set1.zer (zaa (uh HG) G3.out) rX3 _⟩)
  case done =>
    rintro D xs X hD hxs ⟨hpre,hg⟩ hK
    have rX:=zbG hg r1
    obtain ⟨cr,fr⟩:=zag rX
    gi_wp2_with fail
    have st:=Set1.zer hg rX .nilIface
    have hK2:(X.setCell ⟨w.heap.size+1,0,none⟩ .nilIface).heap[D]? = some (.deferred (some [])):=(za8 (B:=0) X _ _).same D _ (Nat.zero_le _) hK rfl
    refine ⟨by simp,.inl ⟨_,_,rfl,run_takeDeferred hK2,?_⟩⟩
    have st':=Set1.own (β := Unit) (znL _) (by omega) () _ _ (some D) st (grownBy_putObj' _ D (.deferred none)) (fun r e=>by cases e; exact ⟨by omega,_,hK2,rfl⟩)
    obtain ⟨e0,_⟩:=zag st'.res
    refine ⟨.nilIface,by simp [results,Tryz.results60,go_sem,e0],?_,?_⟩
    · rw [ybi (fun z hz => by
        rw [<-hxs] at hz
        obtain ⟨y,hy,rfl⟩:=List.mem_map.1 hz
        exact hpre y hy)]
      rfl
    · refine ⟨st'.os.trans g1.os,st'.tape.trans g1.tape,st'.output.trans g1.output,by have:=st'.size; omega,fun k hk _=>(st'.old k (by omega) (by omega)).trans (g1.block k hk (by simp))⟩
  case stop =>
    rintro D c pre X hD hpre ⟨rfl,init,x,h1,h2,h3,h4⟩ hK
    gi_wp2_with fail
    refine ⟨by simp,.inl ⟨_,_,rfl,run_takeDeferred hK,?_⟩⟩
    have st':=Set1.own (β := Unit) (znL _) (by omega) () _ _ (some D) h4 (grownBy_putObj' _ D (.deferred none)) (fun r e=>by cases e; exact ⟨by omega,_,hK,rfl⟩)
    obtain ⟨e0,_⟩:=zag st'.res
    refine ⟨x.1.v,by simp [results,Tryz.results60,go_sem,e0],?_,?_⟩
    · rw [ybj (init := init.map (·.1)) (x := x.1) (fun z hz => by
        obtain ⟨y,hy,rfl⟩:=List.mem_map.1 hz
        exact h2 y hy) h3 (by rw [h1,List.map_append] at hpre; exact hpre)]
      rfl
    · refine ⟨st'.os.trans g1.os,st'.tape.trans g1.tape,st'.output.trans g1.output,by have:=st'.size; omega,fun k hk _=>(st'.old k (by omega) (by omega)).trans (g1.block k hk (by simp))⟩
end Go.Proofs.YtckhafpejefbbaaGreatDoor
