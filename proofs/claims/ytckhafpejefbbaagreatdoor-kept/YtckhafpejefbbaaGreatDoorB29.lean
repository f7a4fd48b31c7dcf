/- Texts of the proof, put together: AltInl4, AltInl5, AltInl6, TextBind, AltInl7. -/
import Derived.Test.YtckhafpejefbbaaGreatDoorB28
import Derived.Test.YtckhafpejefbbaaGreatDoorB26
import Derived.Test.YtckhafpejefbbaaGreatDoorB13

set_option maxRecDepth 100000
set_option maxHeartbeats 4000000
namespace Go.Proofs.YtckhafpejefbbaaGreatDoor
open Go.RowKit Go.Shelf
attribute [local go_sem] Oper.semAt_some
def ownT (LX:TN->List NB) (nm f:Nat) (x:TN):Bool :=
 match x.t,x.v with
 | .lett _ _ true _ _ d _,.iface _ (.pointer (some a))=>decide (d.fr<=f/\f<d.to)&&(zbq ⟨a.block,3,none⟩ (LX x)).any fun y=>decide (y.nb=nm)
 | _,_=>false
theorem ybu {w:World} {hi nm f to:Nat} {tx:List UInt8} {t:Tw.T} {tv:Value} {L0:List TN} {LX:TN->List NB} (hn:NDL w hi t tv L0) (hL:∀x∈L0,NL w hi x.t x.v .nil (LX x)) (hnm:w.heap[nm]? = some (.cells #[.int .i64 f,.int .i64 to,ug tx] 87 (0,0))) :
  Calls Tryz.prog 111 #[tv,.pointer (some ⟨nm,0,none⟩)] w fun r w'=>r = .returned (.bool (L0.any (ownT LX nm f)))/\w.grownBy w' none:=by
 have hrep:=hn.rep.2
 obtain ⟨T0,n0,rfl⟩:=hn.iface
 refine (callsIn_wide (n:=3)).1 ?_
 refine callsIn_of_wp_marks Tryz.func111 rfl trivial ?_
 simp only [Tryz.ntmps111,List.size_toArray,List.length_cons,List.length_nil,Nat.reduceAdd,Nat.reduceSub,Array.replicate_succ,Array.replicate_zero,List.push_toArray,List.append_toArray,List.nil_append,List.cons_append]
 obtain ⟨W0,hW0⟩:∃W0,(w.alloc (.cells #[.pointer (some ⟨nm,0,none⟩)] 83)).alloc (.cells #[.bool false] 4)=W0:=⟨_,rfl⟩
 have G0:w.grownBy W0 none:=by rw [<-hW0]; exact zae (zae (zab _) _) _
 have z0:W0.heap.size=w.heap.size+2:=by rw [<-hW0]; simp
 have l0:W0.heap[w.heap.size]? = some (.cells #[.pointer (some ⟨nm,0,none⟩)] 83 (0,0)):=by rw [<-hW0]; exact (zep w _ _).2
 have r0:W0.heap[w.heap.size+1]? = some (.cells #[.bool false] 4 (0,0)):=by rw [<-hW0]; exact (zep w _ _).1
 gi_wp2_with fail
 refine ⟨trivial,?_⟩
 refine (callsIn_wide.2 (zok W0 ⟨T0,n0,rfl⟩)).mono ?_
 rintro e1 w3 ⟨rfl,rfl⟩
 gi_wp2_with fail
 obtain ⟨W1,hW1⟩:∃W1,W0.alloc (.cells #[.iface T0 (.pointer (some ⟨n0,0,none⟩))] 68)=W1:=⟨_,rfl⟩
 have G1:W0.grownBy W1 none:=by rw [<-hW1]; exact zwA _ _ none
 have z1:W1.heap.size=w.heap.size+3:=by rw [<-hW1]; simp; omega
 have hne:W1.heap[W0.heap.size]? = some (.cells #[.iface T0 (.pointer (some ⟨n0,0,none⟩))] 68 (0,0)):=by rw [<-hW1]; exact zad W0 _
 have l1:=zbG G1 l0
 have r1:=zbG G1 r0
 have g1:=zaa G0 G1
 have m1:=zbG g1 hnm
 have hn1:=hn.kp (Kp.of_grown g1)
 have HL1:Hid (∀x∈L0,NL W1 hi x.t x.v .nil (LX x)):=bV fun x hx=>(hL x hx).kp (Kp.of_grown g1)
 have HRP:=bV hn1.rep.2
 rw [z0] at hne
 rw [hW1]
 clear hW0 hW1 G0 G1 l0 r0 hn hL hnm hrep
 refine zhp (p:=10) (d1:=5) rfl (enters_of Tryz.func108 (by kernel_rfl) rfl) (zpr (n:=0) (zkn hne hn1)) (fun h k=>h.trans k) zlj (Below.refl _ _)
  (fun pre X=>(∀z∈pre,ownT LX nm f z.1=false)/\W1.grownBy X none)
  (fun c pre X=>c = .ret/\∃init z,pre=init ++ [z]/\(∀z∈init,ownT LX nm f z.1=false)/\ownT LX nm f z.1=true/\Set1 W1 (w.heap.size+1) (.bool true) 4 X) ?own ?ownx ⟨by simp,zab _⟩ ?assign ?body ?done ?stop
 case own =>
  rintro s X Y row ⟨h1,h2⟩ hg hr
  exact ⟨h1,zc1 (β := Unit) W1 (znL _) () X Y row h2 hg hr⟩
 case ownx =>
  rintro c s X Y row ⟨h0,init,x,h1,h2,h3,h4⟩ hg hr
  exact ⟨h0,init,x,h1,h2,h3,Set1.own (β := Unit) (znL _) (by omega) () X Y row h4 hg hr⟩
 case assign =>
  intro l x X K hK
  simp only [zsA,zsZ,zsS] at hK ⊢
  gi_wp2
  exact hK
 case body =>
  rintro lr pre ⟨z,hz⟩ X hlr hrec ⟨hpre,hgX⟩ hlt
  have hrz:=uh HRP z hz
  have hnz:=uh HL1 z hz
  have lX:=zbG hgX l1
  have mX:=zbG hgX m1
  have rX:=zbG hgX r1
  have HR:=bV rX
  have hmx:Tryz.prog.follows .mixedOrders=true:=by kernel_rfl
  have GOOD:ownT LX nm f z=false->Hid (∀X',X.grownBy X' none->KeepsFrom W1.heap.size X X'/\Kp X X'/\(∀y∈pre ++ [(⟨z,hz⟩:TNIn L0)],ownT LX nm f y.1=false)/\W1.grownBy X' none):=fun hc X' hg' =>
   ⟨zax hg',Kp.of_grown hg',fun y hy=>(by
    rcases zmA.1 hy with hy | hy
    ·exact hpre y hy
    ·simp only [List.mem_singleton] at hy
     subst hy
     exact hc),zaa hgX hg'⟩
  have hcase:(∃fr to rc bn bat d bo,z.t = .lett fr to rc bn bat d bo)\/(∃T k,z.v = .iface T (.pointer (some ⟨k,0,none⟩))/\(∀W,Sem.run Tryz.prog (Instr.typeAssert (.iface T (.pointer (some ⟨k,0,none⟩))) 68 136 true) W = .ok (.tuple #[.pointer none,.bool false]) W)/\ownT LX nm f z=false):=by
   clear GOOD hmx HR rX mX lX hnz hlt hpre hgX
   obtain ⟨zt,zv⟩:=z
   cases zt with
   | name=>obtain ⟨k,_,_,rfl,_⟩:=hrz; exact .inr ⟨_,k,rfl,zgg _,rfl⟩
   | int=>obtain ⟨k,_,_,rfl,_⟩:=hrz; exact .inr ⟨_,k,rfl,zfx _,rfl⟩
   | truth=>obtain ⟨k,_,_,rfl,_⟩:=hrz; exact .inr ⟨_,k,rfl,zem _,rfl⟩
   | side=>obtain ⟨k,_,_,rfl,_⟩:=hrz; exact .inr ⟨_,k,rfl,ze9 _,rfl⟩
   | bracket=>obtain ⟨_,⟨k,_,_,rfl,_⟩,_⟩:=hrz; exact .inr ⟨_,k,rfl,zdn _,rfl⟩
   | pair=>obtain ⟨_,_,⟨k,_,_,rfl,_⟩,_⟩:=hrz; exact .inr ⟨_,k,rfl,zfa _,rfl⟩
   | call=>obtain ⟨_,_,⟨k,_,_,rfl,_⟩,_⟩:=hrz; exact .inr ⟨_,k,rfl,zfb _,rfl⟩
   | binary=>obtain ⟨_,_,⟨k,_,_,rfl,_⟩,_⟩:=hrz; exact .inr ⟨_,k,rfl,zd8 _,rfl⟩
   | cond=>obtain ⟨_,_,_,⟨k,_,_,rfl,_⟩,_⟩:=hrz; exact .inr ⟨_,k,rfl,zg5 _,rfl⟩
   | fn=>obtain ⟨_,⟨k,_,_,rfl,_⟩,_⟩:=hrz; exact .inr ⟨_,k,rfl,zei _,rfl⟩
   | lett=>exact .inl ⟨_,_,_,_,_,_,_,rfl⟩
  rcases hcase with ⟨fr,to,rc,bn,bat,d,bo,hzt⟩ | ⟨T,k,hzv,hta,hno⟩
  ·obtain ⟨zt,zv⟩:=z
   dsimp only at hzt
   subst hzt
   obtain ⟨dv,bv,⟨b,_,_,rfl,hb⟩,hrd,_⟩:=hrz
   have bX:=zbG hgX hb
   obtain ⟨bd,_,_,rfl,_,_⟩:=hrd.node
   have q6:=zcv (some ⟨b,0,none⟩) X
   have up:∀ {W:World},X.grownBy W none->∀ {i:Nat} {ob:Obj},X.heap[i]? = some ob->W.heap[i]? = some ob:=fun {W} hW {i ob} h=>(hW.block i (zgE.1 h).1 (by simp)).trans h
   have cells:∀ {W:World},X.grownBy W none->W.cell? ⟨w.heap.size,0,none⟩=some (.pointer (some ⟨nm,0,none⟩))/\W.cell? ⟨nm,0,none⟩=some (.int .i64 f)/\W.cell? ⟨b,2,none⟩=some (.bool rc)/\W.cell? ⟨b,5,none⟩=some (.iface (ptrT d) (.pointer (some ⟨bd,0,none⟩))):=fun {W} hW=>by
    obtain ⟨q,_,_,_,_,_⟩:=zaf (up hW mX)
    exact ⟨(zag (up hW lX)).1,q,zcR (up hW bX),zcR (up hW bX)⟩
   have CE:=bV (fun W => @cells W)
   have HPL:Hid (∀W,X.grownBy W none→Sem.run Tryz.prog (method 517 (ptrT d) (.pointer (some ⟨bd,0,none⟩)) "Place") W = .ok (266,.agg #[.int .i64 d.fr,.int .i64 d.to]) W):=bV fun W hW=>by
    obtain ⟨b',_,_,e,c0,c1⟩:=(hrd.kp (Kp.of_grown (zaa hgX hW))).node
    cases e
    exact zg3 d bd W d.fr d.to c0 c1
   have HUS:Hid (∀W,X.grownBy W none->Calls Tryz.prog 184 #[.pointer (some ⟨nm,0,none⟩),.pointer (some ⟨b,0,none⟩)] W fun r w'=>r = .returned (.bool ((zbq ⟨b,3,none⟩ (LX ⟨.lett fr to rc bn bat d bo,.iface 136 (.pointer (some ⟨b,0,none⟩))⟩)).any fun y=>decide (y.nb=nm)))/\W.grownBy w' none):=bV fun W hW=>ybt (up hW bX) (hnz.kp (Kp.of_grown (zaa hgX hW))) (up hW mX)
   have HPre:=bV hpre
   have HG:=bV hgX
   simp only [zsA,zsZ,zsS]
   clear up cells hnz hrd lX mX rX bX hb hpre hgX l1 m1 r1 g1 hn1 hne
   cases rc with
   | false =>
    have GD:=GOOD rfl
    clear GOOD HPL HUS
    gi_wp2_with fail
    refine zd1 lr (fun W=>W.cell? ⟨w.heap.size,0,none⟩=some (.pointer (some ⟨nm,0,none⟩))/\W.cell? ⟨nm,0,none⟩=some (.int .i64 f)/\W.cell? ⟨b,2,none⟩=some (.bool false)/\W.cell? ⟨b,5,none⟩=some (.iface (ptrT d) (.pointer (some ⟨bd,0,none⟩)))) hmx (by kernel_rfl) (uh CE _ (zac (zab _))) ?_
    intro hSd
    refine tkH 0 (oi:=⟨some 16,.move (.tmp 7),4,"inline.go:48",#[],none⟩) (v:=.bool true) rfl (fun W ⟨hs1,hs2,hs3,hs4⟩=>by go_simp) hSd ?_
    simp only [Act.put,zsA,zsZ,zsS]
    refine tkH 1 (oi:=⟨some 17,.move (.tmp 16),4,"inline.go:48",#[⟨0,.data⟩],none⟩) (v:=.bool true) rfl (fun W ⟨hs1,hs2,hs3,hs4⟩=>by go_simp) hSd ?_
    simp only [Act.put,zsA,zsZ,zsS]
    refine tkH 2 (oi:=⟨some 18,.move (.tmp 6),136,"inline.go:48",#[⟨1,.guard⟩],some (1,true)⟩) (v:=.pointer (some ⟨b,0,none⟩)) rfl (fun W ⟨hs1,hs2,hs3,hs4⟩=>by go_simp) hSd ?_
    simp only [Act.put,zsA,zsZ,zsS]
    refine tkH 3 (oi:=⟨some 19,.nilCheck (.tmp 18),0,"inline.go:48",#[⟨2,.data⟩,⟨1,.guard⟩],some (1,true)⟩) (v:=.pointer (some ⟨b,0,none⟩)) rfl (fun W ⟨hs1,hs2,hs3,hs4⟩=>by go_simp) hSd ?_
    simp only [Act.put,zsA,zsZ,zsS]
    refine tkH 4 (oi:=⟨some 20,.fieldAddr 140 (.tmp 19) 1,0,"inline.go:48",#[⟨3,.data⟩,⟨1,.guard⟩],some (1,true)⟩) (v:=.pointer (some ⟨b,2,none⟩)) rfl (fun W ⟨hs1,hs2,hs3,hs4⟩=>by go_simp) hSd ?_
    simp only [Act.put,zsA,zsZ,zsS]
    refine tkH 5 (oi:=⟨some 21,.load 4 (.tmp 20),4,"inline.go:48",#[⟨4,.data⟩,⟨1,.guard⟩],some (1,true)⟩) (v:=.bool false) rfl (fun W ⟨hs1,hs2,hs3,hs4⟩=>by go_simp) hSd ?_
    simp only [Act.put,zsA,zsZ,zsS]
    refine tkH 6 (oi:=⟨some 22,.pick (.tmp 17) (.tmp 21) (.const (.bool false)),4,"inline.go:48",#[⟨1,.data⟩,⟨5,.data⟩],none⟩) (v:=.bool false) rfl (fun W ⟨hs1,hs2,hs3,hs4⟩=>by go_simp) hSd ?_
    simp only [Act.put,zsA,zsZ,zsS]
    refine tkH 7 (oi:=⟨some 23,.move (.tmp 22),4,"inline.go:48",#[⟨6,.data⟩,⟨1,.chain⟩],none⟩) (v:=.bool false) rfl (fun W ⟨hs1,hs2,hs3,hs4⟩=>by go_simp) hSd ?_
    simp only [Act.put,zsA,zsZ,zsS]
    refine tkU 8 (oi:=⟨some 24,.move (.tmp 6),136,"inline.go:48",#[⟨7,.guard⟩],some (7,true)⟩) rfl hSd ?_
    simp only [Act.put,zsA,zsZ,zsS]
    refine tkU 9 (oi:=⟨some 25,.nilCheck (.tmp 24),0,"inline.go:48",#[⟨8,.data⟩,⟨7,.guard⟩],some (7,true)⟩) rfl hSd ?_
    simp only [Act.put,zsA,zsZ,zsS]
    refine tkU 10 (oi:=⟨some 26,.fieldAddr 140 (.tmp 25) 3,0,"inline.go:48",#[⟨9,.data⟩,⟨7,.guard⟩],some (7,true)⟩) rfl hSd ?_
    simp only [Act.put,zsA,zsZ,zsS]
    refine tkU 11 (oi:=⟨some 27,.load 68 (.tmp 26),68,"inline.go:48",#[⟨10,.data⟩,⟨7,.guard⟩],some (7,true)⟩) rfl hSd ?_
    simp only [Act.put,zsA,zsZ,zsS]
    refine tkU 12 (oi:=⟨some 28,.call ⟨.invoke (.tmp 27) "Place",#[],#[]⟩,85,"inline.go:48",#[⟨11,.data⟩,⟨7,.chain⟩,⟨7,.guard⟩],some (7,true)⟩) rfl hSd ?_
    simp only [Act.put,zsA,zsZ,zsS]
    refine tkU 13 (oi:=⟨some 29,.load 83 (.tmp 3),83,"inline.go:48",#[⟨7,.guard⟩],some (7,true)⟩) rfl hSd ?_
    simp only [Act.put,zsA,zsZ,zsS]
    refine tkU 14 (oi:=⟨some 30,.nilCheck (.tmp 29),0,"inline.go:48",#[⟨13,.data⟩,⟨7,.guard⟩],some (7,true)⟩) rfl hSd ?_
    simp only [Act.put,zsA,zsZ,zsS]
    refine tkU 15 (oi:=⟨some 31,.fieldAddr 87 (.tmp 30) 0,0,"inline.go:48",#[⟨14,.data⟩,⟨7,.guard⟩],some (7,true)⟩) rfl hSd ?_
    simp only [Act.put,zsA,zsZ,zsS]
    refine tkU 16 (oi:=⟨some 32,.fieldAddr 85 (.tmp 31) 0,0,"inline.go:48",#[⟨15,.data⟩,⟨7,.guard⟩],some (7,true)⟩) rfl hSd ?_
    simp only [Act.put,zsA,zsZ,zsS]
    refine tkU 17 (oi:=⟨some 33,.load 3 (.tmp 32),3,"inline.go:48",#[⟨16,.data⟩,⟨7,.guard⟩],some (7,true)⟩) rfl hSd ?_
    simp only [Act.put,zsA,zsZ,zsS]
    refine tkU 18 (oi:=⟨some 34,.call ⟨.value (.func 110),#[.tmp 28,.tmp 33],#[85,3]⟩,4,"inline.go:48",#[⟨12,.data⟩,⟨17,.data⟩,⟨12,.chain⟩,⟨7,.guard⟩],some (7,true)⟩) rfl hSd ?_
    simp only [Act.put,zsA,zsZ,zsS]
    refine tkH 19 (oi:=⟨some 35,.pick (.tmp 23) (.tmp 34) (.const (.bool false)),4,"inline.go:48",#[⟨7,.data⟩,⟨18,.data⟩],none⟩) (v:=.bool false) rfl (fun W ⟨hs1,hs2,hs3,hs4⟩=>by go_simp) hSd ?_
    simp only [Act.put,zsA,zsZ,zsS]
    refine tkH 20 (oi:=⟨some 36,.move (.tmp 35),4,"inline.go:48",#[⟨19,.data⟩,⟨18,.chain⟩],none⟩) (v:=.bool false) rfl (fun W ⟨hs1,hs2,hs3,hs4⟩=>by go_simp) hSd ?_
    simp only [Act.put,zsA,zsZ,zsS]
    refine tkU 21 (oi:=⟨some 37,.load 83 (.tmp 3),83,"inline.go:48",#[⟨20,.guard⟩],some (20,true)⟩) rfl hSd ?_
    simp only [Act.put,zsA,zsZ,zsS]
    refine tkU 22 (oi:=⟨some 38,.move (.tmp 6),136,"inline.go:48",#[⟨20,.guard⟩],some (20,true)⟩) rfl hSd ?_
    simp only [Act.put,zsA,zsZ,zsS]
    refine tkU 23 (oi:=⟨some 39,.call ⟨.value (.func 184),#[.tmp 37,.tmp 38],#[83,136]⟩,4,"inline.go:48",#[⟨21,.data⟩,⟨22,.data⟩,⟨20,.chain⟩,⟨20,.guard⟩],some (20,true)⟩) rfl hSd ?_
    simp only [Act.put,zsA,zsZ,zsS]
    refine tkH 24 (oi:=⟨some 40,.pick (.tmp 36) (.tmp 39) (.const (.bool false)),4,"inline.go:48",#[⟨20,.data⟩,⟨23,.data⟩],none⟩) (v:=.bool false) rfl (fun W ⟨hs1,hs2,hs3,hs4⟩=>by go_simp) hSd ?_
    simp only [Act.put,zsA,zsZ,zsS]
    refine wpAnyH_done (by kernel_rfl) ⟨rfl,?_⟩ _
    gi_wp2_with fail
    exact GD.out _ (zac (zab _))
   | true =>
    obtain ⟨ub,hub⟩:∃ub,((zbq ⟨b,3,none⟩ (LX ⟨.lett fr to true bn bat d bo,.iface 136 (.pointer (some ⟨b,0,none⟩))⟩)).any fun y=>decide (y.nb=nm))=ub:=⟨_,rfl⟩
    have hot:ownT LX nm f ⟨.lett fr to true bn bat d bo,.iface 136 (.pointer (some ⟨b,0,none⟩))⟩=(decide (d.fr<=f/\f<d.to)&&ub):=by rw [<-hub]; rfl
    have HOT:=bV hot
    rw [hub] at HUS
    have hp:=uh HPL X.drew (zac (zab _))
    clear hot hub HPL
    gi_wp2_with fail
    refine zd1 lr (fun W=>W.cell? ⟨w.heap.size,0,none⟩=some (.pointer (some ⟨nm,0,none⟩))/\W.cell? ⟨nm,0,none⟩=some (.int .i64 f)/\W.cell? ⟨b,2,none⟩=some (.bool true)/\W.cell? ⟨b,5,none⟩=some (.iface (ptrT d) (.pointer (some ⟨bd,0,none⟩)))) hmx (by kernel_rfl) (uh CE _ (zac (zab _))) ?_
    intro hSd
    refine tkH 0 (oi:=⟨some 16,.move (.tmp 7),4,"inline.go:48",#[],none⟩) (v:=.bool true) rfl (fun W ⟨hs1,hs2,hs3,hs4⟩=>by go_simp) hSd ?_
    simp only [Act.put,zsA,zsZ,zsS]
    refine tkH 1 (oi:=⟨some 17,.move (.tmp 16),4,"inline.go:48",#[⟨0,.data⟩],none⟩) (v:=.bool true) rfl (fun W ⟨hs1,hs2,hs3,hs4⟩=>by go_simp) hSd ?_
    simp only [Act.put,zsA,zsZ,zsS]
    refine tkH 2 (oi:=⟨some 18,.move (.tmp 6),136,"inline.go:48",#[⟨1,.guard⟩],some (1,true)⟩) (v:=.pointer (some ⟨b,0,none⟩)) rfl (fun W ⟨hs1,hs2,hs3,hs4⟩=>by go_simp) hSd ?_
    simp only [Act.put,zsA,zsZ,zsS]
    refine tkH 3 (oi:=⟨some 19,.nilCheck (.tmp 18),0,"inline.go:48",#[⟨2,.data⟩,⟨1,.guard⟩],some (1,true)⟩) (v:=.pointer (some ⟨b,0,none⟩)) rfl (fun W ⟨hs1,hs2,hs3,hs4⟩=>by go_simp) hSd ?_
    simp only [Act.put,zsA,zsZ,zsS]
    refine tkH 4 (oi:=⟨some 20,.fieldAddr 140 (.tmp 19) 1,0,"inline.go:48",#[⟨3,.data⟩,⟨1,.guard⟩],some (1,true)⟩) (v:=.pointer (some ⟨b,2,none⟩)) rfl (fun W ⟨hs1,hs2,hs3,hs4⟩=>by go_simp) hSd ?_
    simp only [Act.put,zsA,zsZ,zsS]
    refine tkH 5 (oi:=⟨some 21,.load 4 (.tmp 20),4,"inline.go:48",#[⟨4,.data⟩,⟨1,.guard⟩],some (1,true)⟩) (v:=.bool true) rfl (fun W ⟨hs1,hs2,hs3,hs4⟩=>by go_simp) hSd ?_
    simp only [Act.put,zsA,zsZ,zsS]
    refine tkH 6 (oi:=⟨some 22,.pick (.tmp 17) (.tmp 21) (.const (.bool false)),4,"inline.go:48",#[⟨1,.data⟩,⟨5,.data⟩],none⟩) (v:=.bool true) rfl (fun W ⟨hs1,hs2,hs3,hs4⟩=>by go_simp) hSd ?_
    simp only [Act.put,zsA,zsZ,zsS]
    refine tkH 7 (oi:=⟨some 23,.move (.tmp 22),4,"inline.go:48",#[⟨6,.data⟩,⟨1,.chain⟩],none⟩) (v:=.bool true) rfl (fun W ⟨hs1,hs2,hs3,hs4⟩=>by go_simp) hSd ?_
    simp only [Act.put,zsA,zsZ,zsS]
    refine tkH 8 (oi:=⟨some 24,.move (.tmp 6),136,"inline.go:48",#[⟨7,.guard⟩],some (7,true)⟩) (v:=.pointer (some ⟨b,0,none⟩)) rfl (fun W ⟨hs1,hs2,hs3,hs4⟩=>by go_simp) hSd ?_
    simp only [Act.put,zsA,zsZ,zsS]
    refine tkH 9 (oi:=⟨some 25,.nilCheck (.tmp 24),0,"inline.go:48",#[⟨8,.data⟩,⟨7,.guard⟩],some (7,true)⟩) (v:=.pointer (some ⟨b,0,none⟩)) rfl (fun W ⟨hs1,hs2,hs3,hs4⟩=>by go_simp) hSd ?_
    simp only [Act.put,zsA,zsZ,zsS]
    refine tkH 10 (oi:=⟨some 26,.fieldAddr 140 (.tmp 25) 3,0,"inline.go:48",#[⟨9,.data⟩,⟨7,.guard⟩],some (7,true)⟩) (v:=.pointer (some ⟨b,5,none⟩)) rfl (fun W ⟨hs1,hs2,hs3,hs4⟩=>by go_simp) hSd ?_
    simp only [Act.put,zsA,zsZ,zsS]
    refine tkH 11 (oi:=⟨some 27,.load 68 (.tmp 26),68,"inline.go:48",#[⟨10,.data⟩,⟨7,.guard⟩],some (7,true)⟩) (v:=.iface (ptrT d) (.pointer (some ⟨bd,0,none⟩))) rfl (fun W ⟨hs1,hs2,hs3,hs4⟩=>by go_simp) hSd ?_
    simp only [Act.put,zsA,zsZ,zsS]
    refine tkH 13 (oi:=⟨some 29,.load 83 (.tmp 3),83,"inline.go:48",#[⟨7,.guard⟩],some (7,true)⟩) (v:=.pointer (some ⟨nm,0,none⟩)) rfl (fun W ⟨hs1,hs2,hs3,hs4⟩=>by go_simp) hSd ?_
    simp only [Act.put,zsA,zsZ,zsS]
    refine tkH 14 (oi:=⟨some 30,.nilCheck (.tmp 29),0,"inline.go:48",#[⟨13,.data⟩,⟨7,.guard⟩],some (7,true)⟩) (v:=.pointer (some ⟨nm,0,none⟩)) rfl (fun W ⟨hs1,hs2,hs3,hs4⟩=>by go_simp) hSd ?_
    simp only [Act.put,zsA,zsZ,zsS]
    refine tkH 15 (oi:=⟨some 31,.fieldAddr 87 (.tmp 30) 0,0,"inline.go:48",#[⟨14,.data⟩,⟨7,.guard⟩],some (7,true)⟩) (v:=.pointer (some ⟨nm,0,none⟩)) rfl (fun W ⟨hs1,hs2,hs3,hs4⟩=>by go_simp) hSd ?_
    simp only [Act.put,zsA,zsZ,zsS]
    refine tkH 16 (oi:=⟨some 32,.fieldAddr 85 (.tmp 31) 0,0,"inline.go:48",#[⟨15,.data⟩,⟨7,.guard⟩],some (7,true)⟩) (v:=.pointer (some ⟨nm,0,none⟩)) rfl (fun W ⟨hs1,hs2,hs3,hs4⟩=>by go_simp) hSd ?_
    simp only [Act.put,zsA,zsZ,zsS]
    refine tkH 17 (oi:=⟨some 33,.load 3 (.tmp 32),3,"inline.go:48",#[⟨16,.data⟩,⟨7,.guard⟩],some (7,true)⟩) (v:=.int .i64 f) rfl (fun W ⟨hs1,hs2,hs3,hs4⟩=>by go_simp) hSd ?_
    simp only [Act.put,zsA,zsZ,zsS]
    refine wpAnyH_ready (rs:=[12]) (by kernel_rfl) (by simp) ?_
    refine AllReadyH.cons (o:=⟨some 28,.call ⟨.invoke (.tmp 27) "Place",#[],#[]⟩,85,"inline.go:48",#[⟨11,.data⟩,⟨7,.chain⟩,⟨7,.guard⟩],some (7,true)⟩) rfl (fun K hK => ?_) AllReadyH.nil
    go_simp
    refine (ze8 _ _ _).mono ?_
    rintro e1 X2 ⟨rfl,hg2⟩
    have G2:=bV (zaa (zac (zab X)) hg2)
    refine hK.out _ _ (uh CE _ G2.out) (fun hSd => ?_)
    clear hK K hg2 hp
    refine wpAnyH_ready (rs:=[18]) (by kernel_rfl) (by simp) ?_
    refine AllReadyH.cons (o:=⟨some 34,.call ⟨.value (.func 110),#[.tmp 28,.tmp 33],#[85,3]⟩,4,"inline.go:48",#[⟨12,.data⟩,⟨17,.data⟩,⟨12,.chain⟩,⟨7,.guard⟩],some (7,true)⟩) rfl (fun K hK => ?_) AllReadyH.nil
    go_simp
    refine (zo9 _ _ _ _).mono ?_
    rintro e1 X3 ⟨rfl,hg3⟩
    have G3:=bV (zaa G2.out hg3)
    refine hK.out _ _ (uh CE _ G3.out) (fun hSd => ?_)
    clear hK K hg3
    by_cases hh:d.fr<=f/\f<d.to
    ·have hb1:(decide ((d.fr:Int)<=(f:Int))&&decide ((f:Int)<(d.to:Int)))=true:=by
      simp only [Bool.and_eq_true,decide_eq_true_eq]
      omega
     rw [hb1]
     have hot2:=uh HOT
     rw [decide_eq_true hh,Bool.true_and] at hot2
     have HOT2:=bV hot2
     clear hb1 hh hot2 HOT
     refine tkH 19 (oi:=⟨some 35,.pick (.tmp 23) (.tmp 34) (.const (.bool false)),4,"inline.go:48",#[⟨7,.data⟩,⟨18,.data⟩],none⟩) (v:=.bool true) rfl (fun W ⟨hs1,hs2,hs3,hs4⟩=>by go_simp) hSd ?_
     simp only [Act.put,zsA,zsZ,zsS]
     refine tkH 20 (oi:=⟨some 36,.move (.tmp 35),4,"inline.go:48",#[⟨19,.data⟩,⟨18,.chain⟩],none⟩) (v:=.bool true) rfl (fun W ⟨hs1,hs2,hs3,hs4⟩=>by go_simp) hSd ?_
     simp only [Act.put,zsA,zsZ,zsS]
     refine tkH 21 (oi:=⟨some 37,.load 83 (.tmp 3),83,"inline.go:48",#[⟨20,.guard⟩],some (20,true)⟩) (v:=.pointer (some ⟨nm,0,none⟩)) rfl (fun W ⟨hs1,hs2,hs3,hs4⟩=>by go_simp) hSd ?_
     simp only [Act.put,zsA,zsZ,zsS]
     refine tkH 22 (oi:=⟨some 38,.move (.tmp 6),136,"inline.go:48",#[⟨20,.guard⟩],some (20,true)⟩) (v:=.pointer (some ⟨b,0,none⟩)) rfl (fun W ⟨hs1,hs2,hs3,hs4⟩=>by go_simp) hSd ?_
     simp only [Act.put,zsA,zsZ,zsS]
     refine wpAnyH_ready (rs:=[23]) (by kernel_rfl) (by simp) ?_
     refine AllReadyH.cons (o:=⟨some 39,.call ⟨.value (.func 184),#[.tmp 37,.tmp 38],#[83,136]⟩,4,"inline.go:48",#[⟨21,.data⟩,⟨22,.data⟩,⟨20,.chain⟩,⟨20,.guard⟩],some (20,true)⟩) rfl (fun K hK => ?_) AllReadyH.nil
     go_simp
     refine (uh HUS _ G3.out).mono ?_
     rintro e1 X4 ⟨rfl,hg4⟩
     have G4:=bV (zaa G3.out hg4)
     refine hK.out _ _ (uh CE _ G4.out) (fun hSd => ?_)
     clear hK K hg4
     refine tkH 24 (oi:=⟨some 40,.pick (.tmp 36) (.tmp 39) (.const (.bool false)),4,"inline.go:48",#[⟨20,.data⟩,⟨23,.data⟩],none⟩) (v:=.bool ub) rfl (fun W _=>by go_simp) hSd ?_
     simp only [Act.put,zsA,zsZ,zsS]
     refine wpAnyH_done (by kernel_rfl) ⟨rfl,?_⟩ _
     have rX4:=zbG G4.out (uh HR)
     obtain ⟨cr,fr'⟩:=zag rX4
     cases ub with
     | true =>
      clear GOOD
      gi_wp2_with fail
      exact ⟨za7 (zax G4.out) (za8 _ _ _),rfl,pre,_,rfl,uh HPre,uh HOT2,Set1.zer (zaa (uh HG) G4.out) rX4 _⟩
     | false =>
      have GD:=GOOD (uh HOT2)
      clear GOOD
      gi_wp2_with fail
      exact GD.out _ G4.out
    ·have hb1:(decide ((d.fr:Int)<=(f:Int))&&decide ((f:Int)<(d.to:Int)))=false:=by
      rw [Bool.and_eq_false_iff]
      simp only [decide_eq_false_iff_not]
      omega
     rw [hb1]
     have GD:=GOOD (by rw [uh HOT,decide_eq_false hh,Bool.false_and])
     clear hb1 hh GOOD HOT HUS
     refine tkH 19 (oi:=⟨some 35,.pick (.tmp 23) (.tmp 34) (.const (.bool false)),4,"inline.go:48",#[⟨7,.data⟩,⟨18,.data⟩],none⟩) (v:=.bool false) rfl (fun W ⟨hs1,hs2,hs3,hs4⟩=>by go_simp) hSd ?_
     simp only [Act.put,zsA,zsZ,zsS]
     refine tkH 20 (oi:=⟨some 36,.move (.tmp 35),4,"inline.go:48",#[⟨19,.data⟩,⟨18,.chain⟩],none⟩) (v:=.bool false) rfl (fun W ⟨hs1,hs2,hs3,hs4⟩=>by go_simp) hSd ?_
     simp only [Act.put,zsA,zsZ,zsS]
     refine tkU 21 (oi:=⟨some 37,.load 83 (.tmp 3),83,"inline.go:48",#[⟨20,.guard⟩],some (20,true)⟩) rfl hSd ?_
     simp only [Act.put,zsA,zsZ,zsS]
     refine tkU 22 (oi:=⟨some 38,.move (.tmp 6),136,"inline.go:48",#[⟨20,.guard⟩],some (20,true)⟩) rfl hSd ?_
     simp only [Act.put,zsA,zsZ,zsS]
     refine tkU 23 (oi:=⟨some 39,.call ⟨.value (.func 184),#[.tmp 37,.tmp 38],#[83,136]⟩,4,"inline.go:48",#[⟨21,.data⟩,⟨22,.data⟩,⟨20,.chain⟩,⟨20,.guard⟩],some (20,true)⟩) rfl hSd ?_
     simp only [Act.put,zsA,zsZ,zsS]
     refine tkH 24 (oi:=⟨some 40,.pick (.tmp 36) (.tmp 39) (.const (.bool false)),4,"inline.go:48",#[⟨20,.data⟩,⟨23,.data⟩],none⟩) (v:=.bool false) rfl (fun W ⟨hs1,hs2,hs3,hs4⟩=>by go_simp) hSd ?_
     simp only [Act.put,zsA,zsZ,zsS]
     refine wpAnyH_done (by kernel_rfl) ⟨rfl,?_⟩ _
     gi_wp2_with fail
     exact GD.out _ G3.out
  ·have hq:=hta X
   have GD:=GOOD hno
   simp only [zsA,zsZ,zsS,hzv]
   clear GOOD hta hno hnz hrz lX mX rX hpre hgX
   gi_wp2_with fail
   refine zd1 lr (fun _=>True) hmx (by kernel_rfl) trivial ?_
   intro hSd
   refine tkH 0 (oi:=⟨some 16,.move (.tmp 7),4,"inline.go:48",#[],none⟩) (v:=.bool false) rfl (fun W _=>by go_simp) hSd ?_
   simp only [Act.put,zsA,zsZ,zsS]
   refine tkH 1 (oi:=⟨some 17,.move (.tmp 16),4,"inline.go:48",#[⟨0,.data⟩],none⟩) (v:=.bool false) rfl (fun W _=>by go_simp) hSd ?_
   simp only [Act.put,zsA,zsZ,zsS]
   refine tkU 2 (oi:=⟨some 18,.move (.tmp 6),136,"inline.go:48",#[⟨1,.guard⟩],some (1,true)⟩) rfl hSd ?_
   simp only [Act.put,zsA,zsZ,zsS]
   refine tkU 3 (oi:=⟨some 19,.nilCheck (.tmp 18),0,"inline.go:48",#[⟨2,.data⟩,⟨1,.guard⟩],some (1,true)⟩) rfl hSd ?_
   simp only [Act.put,zsA,zsZ,zsS]
   refine tkU 4 (oi:=⟨some 20,.fieldAddr 140 (.tmp 19) 1,0,"inline.go:48",#[⟨3,.data⟩,⟨1,.guard⟩],some (1,true)⟩) rfl hSd ?_
   simp only [Act.put,zsA,zsZ,zsS]
   refine tkU 5 (oi:=⟨some 21,.load 4 (.tmp 20),4,"inline.go:48",#[⟨4,.data⟩,⟨1,.guard⟩],some (1,true)⟩) rfl hSd ?_
   simp only [Act.put,zsA,zsZ,zsS]
   refine tkH 6 (oi:=⟨some 22,.pick (.tmp 17) (.tmp 21) (.const (.bool false)),4,"inline.go:48",#[⟨1,.data⟩,⟨5,.data⟩],none⟩) (v:=.bool false) rfl (fun W _=>by go_simp) hSd ?_
   simp only [Act.put,zsA,zsZ,zsS]
   refine tkH 7 (oi:=⟨some 23,.move (.tmp 22),4,"inline.go:48",#[⟨6,.data⟩,⟨1,.chain⟩],none⟩) (v:=.bool false) rfl (fun W _=>by go_simp) hSd ?_
   simp only [Act.put,zsA,zsZ,zsS]
   refine tkU 8 (oi:=⟨some 24,.move (.tmp 6),136,"inline.go:48",#[⟨7,.guard⟩],some (7,true)⟩) rfl hSd ?_
   simp only [Act.put,zsA,zsZ,zsS]
   refine tkU 9 (oi:=⟨some 25,.nilCheck (.tmp 24),0,"inline.go:48",#[⟨8,.data⟩,⟨7,.guard⟩],some (7,true)⟩) rfl hSd ?_
   simp only [Act.put,zsA,zsZ,zsS]
   refine tkU 10 (oi:=⟨some 26,.fieldAddr 140 (.tmp 25) 3,0,"inline.go:48",#[⟨9,.data⟩,⟨7,.guard⟩],some (7,true)⟩) rfl hSd ?_
   simp only [Act.put,zsA,zsZ,zsS]
   refine tkU 11 (oi:=⟨some 27,.load 68 (.tmp 26),68,"inline.go:48",#[⟨10,.data⟩,⟨7,.guard⟩],some (7,true)⟩) rfl hSd ?_
   simp only [Act.put,zsA,zsZ,zsS]
   refine tkU 12 (oi:=⟨some 28,.call ⟨.invoke (.tmp 27) "Place",#[],#[]⟩,85,"inline.go:48",#[⟨11,.data⟩,⟨7,.chain⟩,⟨7,.guard⟩],some (7,true)⟩) rfl hSd ?_
   simp only [Act.put,zsA,zsZ,zsS]
   refine tkU 13 (oi:=⟨some 29,.load 83 (.tmp 3),83,"inline.go:48",#[⟨7,.guard⟩],some (7,true)⟩) rfl hSd ?_
   simp only [Act.put,zsA,zsZ,zsS]
   refine tkU 14 (oi:=⟨some 30,.nilCheck (.tmp 29),0,"inline.go:48",#[⟨13,.data⟩,⟨7,.guard⟩],some (7,true)⟩) rfl hSd ?_
   simp only [Act.put,zsA,zsZ,zsS]
   refine tkU 15 (oi:=⟨some 31,.fieldAddr 87 (.tmp 30) 0,0,"inline.go:48",#[⟨14,.data⟩,⟨7,.guard⟩],some (7,true)⟩) rfl hSd ?_
   simp only [Act.put,zsA,zsZ,zsS]
   refine tkU 16 (oi:=⟨some 32,.fieldAddr 85 (.tmp 31) 0,0,"inline.go:48",#[⟨15,.data⟩,⟨7,.guard⟩],some (7,true)⟩) rfl hSd ?_
   simp only [Act.put,zsA,zsZ,zsS]
   refine tkU 17 (oi:=⟨some 33,.load 3 (.tmp 32),3,"inline.go:48",#[⟨16,.data⟩,⟨7,.guard⟩],some (7,true)⟩) rfl hSd ?_
   simp only [Act.put,zsA,zsZ,zsS]
   refine tkU 18 (oi:=⟨some 34,.call ⟨.value (.func 110),#[.tmp 28,.tmp 33],#[85,3]⟩,4,"inline.go:48",#[⟨12,.data⟩,⟨17,.data⟩,⟨12,.chain⟩,⟨7,.guard⟩],some (7,true)⟩) rfl hSd ?_
   simp only [Act.put,zsA,zsZ,zsS]
   refine tkH 19 (oi:=⟨some 35,.pick (.tmp 23) (.tmp 34) (.const (.bool false)),4,"inline.go:48",#[⟨7,.data⟩,⟨18,.data⟩],none⟩) (v:=.bool false) rfl (fun W _=>by go_simp) hSd ?_
   simp only [Act.put,zsA,zsZ,zsS]
   refine tkH 20 (oi:=⟨some 36,.move (.tmp 35),4,"inline.go:48",#[⟨19,.data⟩,⟨18,.chain⟩],none⟩) (v:=.bool false) rfl (fun W _=>by go_simp) hSd ?_
   simp only [Act.put,zsA,zsZ,zsS]
   refine tkU 21 (oi:=⟨some 37,.load 83 (.tmp 3),83,"inline.go:48",#[⟨20,.guard⟩],some (20,true)⟩) rfl hSd ?_
   simp only [Act.put,zsA,zsZ,zsS]
   refine tkU 22 (oi:=⟨some 38,.move (.tmp 6),136,"inline.go:48",#[⟨20,.guard⟩],some (20,true)⟩) rfl hSd ?_
   simp only [Act.put,zsA,zsZ,zsS]
   refine tkU 23 (oi:=⟨some 39,.call ⟨.value (.func 184),#[.tmp 37,.tmp 38],#[83,136]⟩,4,"inline.go:48",#[⟨21,.data⟩,⟨22,.data⟩,⟨20,.chain⟩,⟨20,.guard⟩],some (20,true)⟩) rfl hSd ?_
   simp only [Act.put,zsA,zsZ,zsS]
   refine tkH 24 (oi:=⟨some 40,.pick (.tmp 36) (.tmp 39) (.const (.bool false)),4,"inline.go:48",#[⟨20,.data⟩,⟨23,.data⟩],none⟩) (v:=.bool false) rfl (fun W _=>by go_simp) hSd ?_
   simp only [Act.put,zsA,zsZ,zsS]
   refine wpAnyH_done (by kernel_rfl) ⟨rfl,?_⟩ _
   gi_wp2_with fail
   exact GD.out _ (zac (zab _))
 case done =>
  rintro D xs X hD hxs ⟨hpre,hg⟩ hK
  have rX:=zbG hg r1
  obtain ⟨cr,fr⟩:=zag rX
  gi_wp2_with fail
  have st:=Set1.zer hg rX (.bool false)
  have hK2:(X.setCell ⟨w.heap.size+1,0,none⟩ (.bool false)).heap[D]? = some (.deferred (some [])):=(za8 (B:=0) X _ _).same D _ (Nat.zero_le _) hK rfl
  refine ⟨by simp,.inl ⟨_,_,rfl,run_takeDeferred hK2,?_⟩⟩
  have st':=Set1.own (β := Unit) (znL _) (by omega) () _ _ (some D) st (grownBy_putObj' _ D (.deferred none)) (fun r e=>by cases e; exact ⟨by omega,_,hK2,rfl⟩)
  obtain ⟨e0,_⟩:=zag st'.res
  refine ⟨.bool false,by simp [results,Tryz.results111,go_sem,e0],?_,?_⟩
  ·have:L0.any (ownT LX nm f)=false:=by
    rw [List.any_eq_false]
    intro z hz
    rw [<-hxs] at hz
    obtain ⟨y,hy,rfl⟩:=List.mem_map.1 hz
    rw [hpre y hy]
    simp
   rw [this]
  ·refine ⟨st'.os.trans g1.os,st'.tape.trans g1.tape,st'.output.trans g1.output,by have:=st'.size; omega,fun k hk _=>(st'.old k (by omega) (by omega)).trans (g1.block k hk (by simp))⟩
 case stop =>
  rintro D c pre X hD hpre ⟨rfl,init,z,h1,h2,h3,h4⟩ hK
  gi_wp2_with fail
  refine ⟨by simp,.inl ⟨_,_,rfl,run_takeDeferred hK,?_⟩⟩
  have st':=Set1.own (β := Unit) (znL _) (by omega) () _ _ (some D) h4 (grownBy_putObj' _ D (.deferred none)) (fun r e=>by cases e; exact ⟨by omega,_,hK,rfl⟩)
  obtain ⟨e0,_⟩:=zag st'.res
  refine ⟨.bool true,by simp [results,Tryz.results111,go_sem,e0],?_,?_⟩
  ·have:L0.any (ownT LX nm f)=true:=by
    rw [List.any_eq_true]
    exact ⟨z.1,hpre.subset (by rw [h1]; simp),h3⟩
   rw [this]
  ·refine ⟨st'.os.trans g1.os,st'.tape.trans g1.tape,st'.output.trans g1.output,by have:=st'.size; omega,fun k hk _=>(st'.old k (by omega) (by omega)).trans (g1.block k hk (by simp))⟩
end Go.Proofs.YtckhafpejefbbaaGreatDoor 
namespace Go.Proofs.YtckhafpejefbbaaGreatDoor
open Go.RowKit Go.Shelf
theorem zvu (tv:Value) (b:Nat) (w:World):Calls Tryz.prog 61 #[tv,.iface 191 (.pointer (some ⟨b,0,none⟩))] w fun r w'=>r = .returned (.bool true)/\w=w':=by
 have q0:=zgh
 have q1:=zl2
 have q2:=zms
 have q3:=zov
 have q4:=ze1
 go_enter Tryz.func61,Tryz.ntmps61
 go_wp2_with fail
 go_ret
 exact ⟨rfl,rfl⟩
theorem zr0 (tv:Value) (b:Nat) (w:World):Calls Tryz.prog 61 #[tv,.iface 195 (.pointer (some ⟨b,0,none⟩))] w fun r w'=>r = .returned (.bool true)/\w=w':=by
 have q0:=zeu
 have q1:=zi4
 have q2:=zhd
 have q3:=zlo
 have q4:=zdu
 go_enter Tryz.func61,Tryz.ntmps61
 go_wp2_with fail
 go_ret
 exact ⟨rfl,rfl⟩
theorem ztu (tv:Value) (b:Nat) (w:World):Calls Tryz.prog 61 #[tv,.iface 199 (.pointer (some ⟨b,0,none⟩))] w fun r w'=>r = .returned (.bool true)/\w=w':=by
 have q0:=zfi
 have q1:=zj0
 have q2:=zib
 have q3:=zi5
 have q4:=zee
 go_enter Tryz.func61,Tryz.ntmps61
 go_wp2_with fail
 go_ret
 exact ⟨rfl,rfl⟩
theorem zvv (tv:Value) (b:Nat) (w:World):Calls Tryz.prog 61 #[tv,.iface 215 (.pointer (some ⟨b,0,none⟩))] w fun r w'=>r = .returned (.bool true)/\w=w':=by
 have q0:=zgi
 have q1:=zp8
 have q2:=zjb
 have q3:=zj7
 have q4:=zdw
 go_enter Tryz.func61,Tryz.ntmps61
 go_wp2_with fail
 go_ret
 exact ⟨rfl,rfl⟩
theorem ztv (tv:Value) (b:Nat) (w:World):Calls Tryz.prog 61 #[tv,.iface 209 (.pointer (some ⟨b,0,none⟩))] w fun r w'=>r = .returned (.bool false)/\w=w':=by
 have q0:=zfk
 have q1:=zj4
 have q2:=zid
 have q3:=zi7
 have q4:=zeg
 have q5:=zgx
 have q6:=zey
 go_enter Tryz.func61,Tryz.ntmps61
 go_wp2_with fail
 go_ret
 exact ⟨rfl,rfl⟩
theorem zra (tv:Value) (b:Nat) (w:World):Calls Tryz.prog 61 #[tv,.iface 211 (.pointer (some ⟨b,0,none⟩))] w fun r w'=>r = .returned (.bool false)/\w=w':=by
 have q0:=zeh
 have q1:=zie
 have q2:=zgs
 have q3:=zhf
 have q4:=zdi
 have q5:=zfl
 have q6:=zec
 go_enter Tryz.func61,Tryz.ntmps61
 go_wp2_with fail
 go_ret
 exact ⟨rfl,rfl⟩
theorem zye (tv:Value) (b:Nat) (w:World):Calls Tryz.prog 61 #[tv,.iface 213 (.pointer (some ⟨b,0,none⟩))] w fun r w'=>r = .returned (.bool false)/\w=w':=by
 have q0:=zhh
 have q1:=zn2
 have q2:=zj6
 have q3:=zl3
 have q4:=zf0
 have q5:=zi9
 have q6:=zf9
 go_enter Tryz.func61,Tryz.ntmps61
 go_wp2_with fail
 go_ret
 exact ⟨rfl,rfl⟩
theorem zvw (tv:Value) (b:Nat) (w:World):Calls Tryz.prog 61 #[tv,.iface 136 (.pointer (some ⟨b,0,none⟩))] w fun r w'=>r = .returned (.bool false)/\w=w':=by
 have q0:=zgj
 have q1:=zl5
 have q2:=zjc
 have q3:=zka
 have q4:=zdx
 have q5:=zhx
 have q6:=zfm
 go_enter Tryz.func61,Tryz.ntmps61
 go_wp2_with fail
 go_ret
 exact ⟨rfl,rfl⟩
theorem ztw {tv:Value} {b:Nat} {w:World} {r:Bool} (h:Calls Tryz.prog 111 #[tv,.pointer (some ⟨b,0,none⟩)] w fun e w'=>e = .returned (.bool r)/\w.grownBy w' none):Calls Tryz.prog 61 #[tv,.iface 83 (.pointer (some ⟨b,0,none⟩))] w fun e w'=>e = .returned (.bool (!r))/\w.grownBy w' none:=by
 have q0:=zfh
 have HH:=bV h
 clear h
 go_enter Tryz.func61,Tryz.ntmps61
 go_wp2_with fail
 refine (uh HH).mono ?_
 rintro e1 w1 ⟨rfl,hg⟩
 have G1:=bV hg
 clear hg
 go_wp2_with fail
 go_ret
 exact ⟨rfl,G1.out⟩
theorem zpn {tv v1:Value} {b:Nat} {c0 c1:Value} {w:World} {r:Bool} (hb:w.heap[b]? = some (.cells #[c0,c1,v1] 206 (0,0))) (h0:∃T n,v1 = .iface T (.pointer (some ⟨n,0,none⟩))) (h:Calls Tryz.prog 61 #[tv,v1] w fun e w'=>e = .returned (.bool r)/\w.grownBy w' none):Calls Tryz.prog 61 #[tv,.iface 204 (.pointer (some ⟨b,0,none⟩))] w fun e w'=>e = .returned (.bool r)/\w.grownBy w' none:=by
 obtain ⟨T0,n0,rfl⟩:=h0
 have c2:w.cell? ⟨b,2,none⟩=some (.iface T0 (.pointer (some ⟨n0,0,none⟩))):=zcR hb
 have q0:=zd2
 have q1:=zhe
 have q2:=zfy
 have q3:=zgp
 have q4:=zc6
 have q5:=zgq
 have q6:=zdv
 have HH:=bV h
 clear h hb
 go_enter Tryz.func61,Tryz.ntmps61
 go_wp2_with fail
 refine (uh HH).mono ?_
 rintro e1 w1 ⟨rfl,hg⟩
 have G1:=bV hg
 clear hg
 go_wp2_with fail
 go_ret
 exact ⟨rfl,G1.out⟩
theorem ztx {tv v1 v2:Value} {b:Nat} {c0 c1:Value} {w:World} {r1 r2:Bool} (hb:w.heap[b]? = some (.cells #[c0,c1,v1,v2] 229 (0,0))) (h0:∃T n,v1 = .iface T (.pointer (some ⟨n,0,none⟩))) (h1:∃T n,v2 = .iface T (.pointer (some ⟨n,0,none⟩))) (h:∀W,w.grownBy W none->Calls Tryz.prog 61 #[tv,v1] W fun e w'=>e = .returned (.bool r1)/\W.grownBy w' none) (k:∀W,w.grownBy W none->Calls Tryz.prog 61 #[tv,v2] W fun e w'=>e = .returned (.bool r2)/\W.grownBy w' none):Calls Tryz.prog 61 #[tv,.iface 207 (.pointer (some ⟨b,0,none⟩))] w fun e w'=>e = .returned (.bool (r1&&r2))/\w.grownBy w' none:=by
 obtain ⟨T0,n0,rfl⟩:=h0
 obtain ⟨T1,n1,rfl⟩:=h1
 have cc:∀ {W:World},w.grownBy W none->W.cell? ⟨b,2,none⟩=some (.iface T0 (.pointer (some ⟨n0,0,none⟩)))/\W.cell? ⟨b,3,none⟩=some (.iface T1 (.pointer (some ⟨n1,0,none⟩))):=fun {W} hW=>by
  have:=zbG hW hb
  exact ⟨zcR this,zcR this⟩
 have CC:=bV (fun W => @cc W)
 obtain ⟨c2,c3⟩:=cc (zab w)
 have q0:=zfj
 have q1:=zj2
 have q2:=zic
 have q3:=zi6
 have q4:=zef
 have q5:=zgw
 have HH:=bV h
 have HK:=bV k
 clear h k hb cc
 have D1:Hid (w.grownBy w.drew none):=zac (zab _)
 cases r1 with
 | false =>
  go_enter Tryz.func61,Tryz.ntmps61
  go_wp2_with fail
  refine (uh HH _ (zab _)).mono ?_
  rintro e1 w1 ⟨rfl,hg⟩
  have G1:=bV hg
  clear hg
  go_wp2_with fail
  go_ret
  exact ⟨rfl,G1.out⟩
 | true =>
  go_enter Tryz.func61,Tryz.ntmps61
  go_wp2_with fail
  refine (uh HH _ (zab _)).mono ?_
  rintro e1 w1 ⟨rfl,hg⟩
  have G1:=bV hg
  obtain ⟨d2,d3⟩:=uh CC _ hg
  clear hg
  go_wp2_with fail
  refine (uh HK _ G1.out).mono ?_
  rintro e1 w2 ⟨rfl,hg⟩
  have G2:=bV (zaa G1.out hg)
  clear hg
  go_wp2_with fail
  go_ret
  exact ⟨by simp,G2.out⟩
theorem zh4 {w0:World} {hi:Nat} {t:Tw.T} {tv:Value} {L0:List TN} {LX:TN->List NB} {own:Nat->Bool} (hn:NDL w0 hi t tv L0) (hL:∀x∈L0,NL w0 hi x.t x.v .nil (LX x)):∀ {d:Tw.T} {dv:Value} {Ld:List NB},NL w0 hi d dv .nil Ld->(∀y∈Ld,L0.any (ownT LX y.nb y.fr)=own y.fr)->∀W,w0.grownBy W none->Calls Tryz.prog 61 #[tv,dv] W fun r w'=>r = .returned (.bool (Tw.Inl.isV own d))/\W.grownBy w' none
 | .name f to x,dv,Ld,hd,ho,W,hW=>by
  obtain ⟨k,⟨rfl,hb⟩,rfl⟩:=hd
  have hk:=Kp.of_grown hW
  have:=ztw (ybu (hn.kp hk) (fun x hx=>(hL x hx).kp hk) (hk _ _ _ _ hb (by decide)))
  rw [ho ⟨k,f,to,x,.nil⟩ (by simp)] at this
  exact this
 | .int ..,dv,Ld,hd,ho,W,hW=>by
  obtain ⟨⟨b,_,_,rfl,_⟩,_⟩:=hd
  exact (zvu tv b W).mono (by rintro e w' ⟨rfl,rfl⟩; exact ⟨rfl,zab _⟩)
 | .truth ..,dv,Ld,hd,ho,W,hW=>by
  obtain ⟨⟨b,_,_,rfl,_⟩,_⟩:=hd
  exact (zr0 tv b W).mono (by rintro e w' ⟨rfl,rfl⟩; exact ⟨rfl,zab _⟩)
 | .side ..,dv,Ld,hd,ho,W,hW=>by
  obtain ⟨⟨b,_,_,rfl,_⟩,_⟩:=hd
  exact (ztu tv b W).mono (by rintro e w' ⟨rfl,rfl⟩; exact ⟨rfl,zab _⟩)
 | .bracket _ _ i,dv,Ld,hd,ho,W,hW=>by
  obtain ⟨v1,⟨b,_,_,rfl,hb⟩,h1⟩:=hd
  exact zpn ((Kp.of_grown hW) _ _ _ _ hb (by decide)) h1.iface (zh4 hn hL (d:=i) h1 ho W hW)
 | .pair _ _ l r,dv,Ld,hd,ho,W,hW=>by
  obtain ⟨v1,v2,L1,L2,⟨b,_,_,rfl,hb⟩,h1,h2,rfl⟩:=hd
  exact ztx ((Kp.of_grown hW) _ _ _ _ hb (by decide)) h1.iface h2.iface (fun W' hW'=>zh4 hn hL (d:=l) h1 (fun y hy=>ho y (List.mem_append_left _ hy)) W' (zaa hW hW')) (fun W' hW'=>zh4 hn hL (d:=r) h2 (fun y hy=>ho y (List.mem_append_right _ hy)) W' (zaa hW hW'))
 | .call ..,dv,Ld,hd,ho,W,hW=>by
  obtain ⟨_,_,_,_,⟨b,_,_,rfl,_⟩,_⟩:=hd
  exact (ztv tv b W).mono (by rintro e w' ⟨rfl,rfl⟩; exact ⟨rfl,zab _⟩)
 | .binary ..,dv,Ld,hd,ho,W,hW=>by
  obtain ⟨_,_,_,_,⟨b,_,_,rfl,_⟩,_⟩:=hd
  exact (zra tv b W).mono (by rintro e w' ⟨rfl,rfl⟩; exact ⟨rfl,zab _⟩)
 | .cond ..,dv,Ld,hd,ho,W,hW=>by
  obtain ⟨_,_,_,_,_,_,⟨b,_,_,rfl,_⟩,_⟩:=hd
  exact (zye tv b W).mono (by rintro e w' ⟨rfl,rfl⟩; exact ⟨rfl,zab _⟩)
 | .fn ..,dv,Ld,hd,ho,W,hW=>by
  obtain ⟨b,_,⟨_,rfl,_⟩,_⟩:=hd
  exact (zvv tv b W).mono (by rintro e w' ⟨rfl,rfl⟩; exact ⟨rfl,zab _⟩)
 | .lett ..,dv,Ld,hd,ho,W,hW=>by
  obtain ⟨b,_,_,_,_,⟨_,rfl,_⟩,_⟩:=hd
  exact (zvw tv b W).mono (by rintro e w' ⟨rfl,rfl⟩; exact ⟨rfl,zab _⟩)
open Go.RowKit Go.Shelf
theorem znn (uv:Value) (b:Nat) (s:ByteArray) (w:World):Calls Tryz.prog 114 #[uv,.iface 215 (.pointer (some ⟨b,0,none⟩)),.string s] w fun r w'=>r = .returned (.bool true)/\w=w':=by
 have q0:=zdw
 go_enter Tryz.func114,Tryz.ntmps114
 go_wp2_with fail
 go_ret
 exact ⟨rfl,rfl⟩
theorem zno {ub f to:Nat} {tx:List UInt8} {b:Nat} {s:ByteArray} {w:World} (hu:w.heap[ub]? = some (.cells #[.int .i64 f,.int .i64 to,ug tx] 87 (0,0))) (h0:0<f) (h1:f<=s.size) (hs:s.size<=300):Calls Tryz.prog 114 #[.pointer (some ⟨ub,0,none⟩),.iface 191 (.pointer (some ⟨b,0,none⟩)),.string s] w fun r w'=>r = .returned (.bool (Tw.zas (Tw.zam (s.data.toList.drop (f-1)))))/\w=w':=by
 have q0:=ze1
 have q1:=zl2
 obtain ⟨c0,_,_,_,_,_⟩:=zaf hu
 have hfi:(0:Int)<(f:Int):=by omega
 have hfj:(f:Int)<=(s.size:Int):=by omega
 have hfk:(s.size:Int)<=300:=by omega
 clear hu
 go_enter Tryz.func114,Tryz.ntmps114
 go_wp2_with fail
 refine (zed _ _ (by omega) (by have:=s[f-1].toNat_lt; omega)).mono ?_
 rintro e1 w1 ⟨rfl,rfl⟩
 go_wp2_with fail
 go_ret
 have hlt:f-1<s.data.toList.length:=by
  have:s.data.toList.length=s.size:=Array.length_toList
  omega
 refine ⟨?_,rfl⟩
 rw [List.drop_eq_getElem_cons hlt]
 rfl
theorem zmh (uv:Value) (b:Nat) (s:ByteArray) (w:World):Calls Tryz.prog 114 #[uv,.iface 83 (.pointer (some ⟨b,0,none⟩)),.string s] w fun r w'=>r = .returned (.bool false)/\w=w':=by
 have q0:=zgf
 have q1:=zue
 go_enter Tryz.func114,Tryz.ntmps114
 go_wp2_with fail
 go_ret
 exact ⟨rfl,rfl⟩
theorem zlk (uv:Value) (b:Nat) (s:ByteArray) (w:World):Calls Tryz.prog 114 #[uv,.iface 195 (.pointer (some ⟨b,0,none⟩)),.string s] w fun r w'=>r = .returned (.bool false)/\w=w':=by
 have q0:=zdu
 have q1:=zi4
 go_enter Tryz.func114,Tryz.ntmps114
 go_wp2_with fail
 go_ret
 exact ⟨rfl,rfl⟩
theorem zmi (uv:Value) (b:Nat) (s:ByteArray) (w:World):Calls Tryz.prog 114 #[uv,.iface 199 (.pointer (some ⟨b,0,none⟩)),.string s] w fun r w'=>r = .returned (.bool false)/\w=w':=by
 have q0:=zee
 have q1:=zj0
 go_enter Tryz.func114,Tryz.ntmps114
 go_wp2_with fail
 go_ret
 exact ⟨rfl,rfl⟩
theorem zjw (uv:Value) (b:Nat) (s:ByteArray) (w:World):Calls Tryz.prog 114 #[uv,.iface 204 (.pointer (some ⟨b,0,none⟩)),.string s] w fun r w'=>r = .returned (.bool false)/\w=w':=by
 have q0:=zc6
 have q1:=zhe
 go_enter Tryz.func114,Tryz.ntmps114
 go_wp2_with fail
 go_ret
 exact ⟨rfl,rfl⟩
theorem zmj (uv:Value) (b:Nat) (s:ByteArray) (w:World):Calls Tryz.prog 114 #[uv,.iface 207 (.pointer (some ⟨b,0,none⟩)),.string s] w fun r w'=>r = .returned (.bool false)/\w=w':=by
 have q0:=zef
 have q1:=zj2
 go_enter Tryz.func114,Tryz.ntmps114
 go_wp2_with fail
 go_ret
 exact ⟨rfl,rfl⟩
theorem zmk (uv:Value) (b:Nat) (s:ByteArray) (w:World):Calls Tryz.prog 114 #[uv,.iface 209 (.pointer (some ⟨b,0,none⟩)),.string s] w fun r w'=>r = .returned (.bool false)/\w=w':=by
 have q0:=zeg
 have q1:=zj4
 go_enter Tryz.func114,Tryz.ntmps114
 go_wp2_with fail
 go_ret
 exact ⟨rfl,rfl⟩
theorem zkx (uv:Value) (b:Nat) (s:ByteArray) (w:World):Calls Tryz.prog 114 #[uv,.iface 211 (.pointer (some ⟨b,0,none⟩)),.string s] w fun r w'=>r = .returned (.bool false)/\w=w':=by
 have q0:=zdi
 have q1:=zie
 go_enter Tryz.func114,Tryz.ntmps114
 go_wp2_with fail
 go_ret
 exact ⟨rfl,rfl⟩
theorem zor (uv:Value) (b:Nat) (s:ByteArray) (w:World):Calls Tryz.prog 114 #[uv,.iface 213 (.pointer (some ⟨b,0,none⟩)),.string s] w fun r w'=>r = .returned (.bool false)/\w=w':=by
 have q0:=zf0
 have q1:=zn2
 go_enter Tryz.func114,Tryz.ntmps114
 go_wp2_with fail
 go_ret
 exact ⟨rfl,rfl⟩
theorem znp (uv:Value) (b:Nat) (s:ByteArray) (w:World):Calls Tryz.prog 114 #[uv,.iface 136 (.pointer (some ⟨b,0,none⟩)),.string s] w fun r w'=>r = .returned (.bool false)/\w=w':=by
 have q0:=zdx
 have q1:=zl5
 go_enter Tryz.func114,Tryz.ntmps114
 go_wp2_with fail
 go_ret
 exact ⟨rfl,rfl⟩
theorem znq {w:World} {hi:Nat} {d:Tw.T} {dv:Value} {ub f to:Nat} {tx:List UInt8} {s:ByteArray} (hd:Rep w 0 hi d dv) (hu:w.heap[ub]? = some (.cells #[.int .i64 f,.int .i64 to,ug tx] 87 (0,0))) (h0:0<f) (h1:f<=s.size) (hs:s.size<=300):Calls Tryz.prog 114 #[.pointer (some ⟨ub,0,none⟩),dv,.string s] w fun r w'=>r = .returned (.bool (Tw.Inl.zjp s.data.toList d f))/\w=w':=by
 cases d with
 | name=>obtain ⟨b,_,_,rfl,_⟩:=hd; exact zmh _ b s w
 | int=>obtain ⟨b,_,_,rfl,_⟩:=hd; exact zno hu h0 h1 hs
 | truth=>obtain ⟨b,_,_,rfl,_⟩:=hd; exact zlk _ b s w
 | side=>obtain ⟨b,_,_,rfl,_⟩:=hd; exact zmi _ b s w
 | bracket=>obtain ⟨_,⟨b,_,_,rfl,_⟩,_⟩:=hd; exact zjw _ b s w
 | pair=>obtain ⟨_,_,⟨b,_,_,rfl,_⟩,_⟩:=hd; exact zmj _ b s w
 | call=>obtain ⟨_,_,⟨b,_,_,rfl,_⟩,_⟩:=hd; exact zmk _ b s w
 | binary=>obtain ⟨_,_,⟨b,_,_,rfl,_⟩,_⟩:=hd; exact zkx _ b s w
 | cond=>obtain ⟨_,_,_,⟨b,_,_,rfl,_⟩,_⟩:=hd; exact zor _ b s w
 | fn=>obtain ⟨_,⟨b,_,_,rfl,_⟩,_⟩:=hd; exact znn _ b s w
 | lett=>obtain ⟨_,_,⟨b,_,_,rfl,_⟩,_⟩:=hd; exact znp _ b s w
theorem zr1 {w:World} {hi:Nat} {d:Tw.T} {dv:Value} {ub f to:Nat} {tx:List UInt8} {s:ByteArray} (hd:Rep w 0 hi d dv) (hu:w.heap[ub]? = some (.cells #[.int .i64 f,.int .i64 to,ug tx] 87 (0,0))) (h0:0<f) (h1:f<=s.size) (hs:s.size<=300) (h2:d.fr<=d.to) (h3:d.to<=s.size):Calls Tryz.prog 63 #[.pointer (some ⟨ub,0,none⟩),dv,.string s] w fun r w'=>r = .returned (ug (Tw.Inl.zch s.data.toList d f))/\w.grownBy w' none:=by
 obtain ⟨bd,_,_,rfl,c0,c1⟩:=hd.node
 have hp:=zg3 d bd w d.fr d.to c0 c1
 have HN:Hid (∀W,w.grownBy W none->Calls Tryz.prog 114 #[.pointer (some ⟨ub,0,none⟩),.iface (ptrT d) (.pointer (some ⟨bd,0,none⟩)),.string s] W fun r w'=>r = .returned (.bool (Tw.Inl.zjp s.data.toList d f))/\W=w'):=bV fun W hW=>znq (hd.kp (Kp.of_grown hW)) (zbG hW hu) h0 h1 hs
 have hp1:=zdh s d.fr d.to
 have e2:(d.fr:Int)<=(d.to:Int):=by omega
 have e3:(d.to:Int)<=(s.size:Int):=by omega
 have e4:(s.size:Int)<=300:=by omega
 have hpl:(Tw.zaw s.data.toList d.fr d.to).length<=300:=by
  have:s.data.toList.length=s.size:=Array.length_toList
  unfold Tw.zaw
  rw [List.length_take]
  omega
 obtain ⟨nb,hnb⟩:∃nb,Tw.Inl.zjp s.data.toList d f=nb:=⟨_,rfl⟩
 have HT:Hid (Tw.Inl.zch s.data.toList d f=if nb then 40::(Tw.zaw s.data.toList d.fr d.to ++ [41]) else Tw.zaw s.data.toList d.fr d.to):=bV (by unfold Tw.Inl.zch; rw [hnb])
 rw [hnb] at HN
 generalize ptrT d=T at *
 clear hd hu c0 c1 hnb
 cases nb with
 | true =>
  go_enter Tryz.func63,Tryz.ntmps63
  go_wp2_with fail
  refine (ze8 _ _ _).mono ?_
  rintro e1 w1 ⟨rfl,hg⟩
  have G1:=bV hg
  clear hg
  go_wp2_with fail
  refine (uh HN _ (zae G1.out _)).mono ?_
  rintro e1 w2 ⟨rfl,rfl⟩
  have hp2:(Tw.zaw s.data.toList d.fr d.to).toArray.size<=300:=by simpa using hpl
  go_wp2_with fail
  go_ret
  refine ⟨?_,zae G1.out _⟩
  rw [uh HT]
  exact congrArg (fun b=>Ending.returned (Value.string b)) (zwe (by simp))
 | false =>
  go_enter Tryz.func63,Tryz.ntmps63
  go_wp2_with fail
  refine (ze8 _ _ _).mono ?_
  rintro e1 w1 ⟨rfl,hg⟩
  have G1:=bV hg
  clear hg
  go_wp2_with fail
  refine (uh HN _ (zae G1.out _)).mono ?_
  rintro e1 w2 ⟨rfl,rfl⟩
  go_wp2_with fail
  go_ret
  refine ⟨?_,zae G1.out _⟩
  rw [uh HT]
  rfl
open Go.RowKit Go.Shelf
theorem ydq (l:Nat) (ρ : Operand->Value) (d:Option Tmp) (ty:TypeId) (p:String) (af:Array Edge) (g:Option (Nat×Bool)) (t:TypeId):Oper.semAt (some l) ρ {dst:=d,op:=.alloc t,type:=ty,pos:=p,after:=af,guard:=g}=execOp ρ {dst:=d,op:=.alloc t,type:=ty,pos:=p,after:=af,guard:=g}:=rfl
theorem ye0 (l:Nat) (ρ : Operand->Value) (d:Option Tmp) (ty:TypeId) (p:String) (af:Array Edge) (g:Option (Nat×Bool)) (f:Nat) (xs:Array Operand) (ts:Array TypeId):Oper.semAt (some l) ρ {dst:=d,op:=.call {callee:=.value (.func f),args:=xs,argTypes:=ts},type:=ty,pos:=p,after:=af,guard:=g}=execOp ρ {dst:=d,op:=.call {callee:=.value (.func f),args:=xs,argTypes:=ts},type:=ty,pos:=p,after:=af,guard:=g}:=rfl
attribute [local go_sem] ztn zq0 zto zx4 zq1 zq2 zq3 ydq ye0
section
variable {P : Program} {α : Type} {n : Nat} {g : Operand} {ps : Array Tmp} {assign body : Code} {Q : Exit -> Act -> World -> Prop} {a : Act} {w : World}
theorem ybv {l₀ : Nat} {r₀ : Loop} (hl₀ : w.heap[l₀]? = some (.loop r₀)) {p d1:Tmp} {gf:Nat} {lb:Array Value} (hg:a.eval g = .func (.func gf) #[] lb) (eg:∀args w,(callFunc gf args).run P w = .ok (.enter gf args) w)
  {e1 : α -> Value} {Kp:World->World->Prop} {S Sp:List α -> Prop} {N:Nat} {w0:World} (hseq:SeqO P gf lb (fun x => #[e1 x]) Kp S Sp N w0)
  (hKt:∀ {A B C:World},Kp A B->Kp B C->Kp A C) (hKb:∀(W:World) (l:Nat) (o o':Obj),w.heap.size<=l->W.heap[l]? = some o->o.isCells=false->o.isWalk=false->Kp W (W.putObj l o')) (hb0:Below w0.heap.size w0 w)
  (I:List α -> World->Prop) (Ix:Code->List α -> World->Prop) (hI:OwnFrom w.heap.size I) (hIx:∀c,OwnFrom w.heap.size (Ix c)) (h0:I [] w)
  (hassign:∀(l:Nat) (x : α) (W:World) (K:Act->World->Prop),K {tmps:=(a.tmps.setIfInBounds p (e1 x)).setIfInBounds d1 (e1 x),defers:=[]} W ->
   assign.wpIn (Fence.wide.inRound l) 0 P (Exit.then K (fun _ _ _=>False)) {tmps:=a.tmps.setIfInBounds p (e1 x),defers:=[]} W)
  (hbody:∀(l:Nat) (pre:List α) (x : α) (W:World),w.heap.size<=l->(∃r,W.heap[l]? = some (.loop r))->I pre W->pre.length<N->body.wpIn (Fence.wide.inRound l) 0 P (ownPostG w.heap.size Kp I Ix (pre ++ [x]) W) {tmps:=(a.tmps.setIfInBounds p (e1 x)).setIfInBounds d1 (e1 x),defers:=[]} W)
  (hdone:∀(xs:List α) (W:World),S xs->I xs W->Q .normal a W)
  (hstop:∀(c:Code) (pre:List α) (W:World),Sp pre->Ix c pre W->c.wpIn (Fence.wide.inRound l₀) n P Q a W) :
  (Code.rangeFunc g #[p] assign body).wpIn (Fence.wide.inRound l₀) n P Q a w :=
 yda hl₀ hg eg hseq (fun _ _ _ _ _ hs _ _=>hs) (fun h k=>hKt h k) hKb hb0 (fun _=>rfl) I Ix hI hIx h0 (fun x => {tmps:=(a.tmps.setIfInBounds p (e1 x)).setIfInBounds d1 (e1 x),defers:=[]})
  (fun l x W K hK=>by simpa using hassign l x W K hK) (fun l pre x W h1 h2 h3 h4 _=>hbody l pre x W h1 h2 h3 h4) hdone hstop
end
theorem zdp {X Y:World} {B B':Nat} {e:TypeId} {size:Nat} {v:Value} {k:Nat} {xs:List Value} (h:X.ownsRow B e size v k xs) (hB:B'<=B) (hk:∀(g:Nat) (c:Array Value),X.heap[g]? = some (Obj.cells c e (0,0))->Y.heap[g]? = some (Obj.cells c e (0,0))):Y.ownsRow B' e size v k xs:=by
 refine ⟨h.1,?_⟩
 rcases h.2 with h | ⟨g,cap,cur,e1,hg,hb,r⟩
 ·exact .inl h
 ·exact .inr ⟨g,cap,cur,e1,Nat.le_trans hB hg,hk _ _ hb,r⟩
theorem zhb {X:World} {B:Nat} {e:TypeId} {size:Nat} {v:Value} {k:Nat} {xs:List Value} (h:X.ownsRow B e size v k xs):∃p c,v = .slice p k c:=by
 rcases h.2 with ⟨rfl,rfl⟩ | ⟨g,cap,cur,rfl,_⟩
 ·exact ⟨_,_,rfl⟩
 ·exact ⟨_,_,rfl⟩
theorem zc0 {X w1:World} {n₀ B:Nat} {t e:TypeId} {size:Nat} {v v':Value} {k:Nat} {xs:List Value} {tmp:Obj} (hv:Boxed X B t v) (hrow:X.ownsRow n₀ e size v k xs) (hgrow:(X.alloc tmp).grownBy w1 v.ownBlock) {u:TypeId} (h1:u≠t) (h2:u≠e) {j:Nat} {c:Array Value} {m:Nat×Nat} (hj:X.heap[j]? = some (.cells c u m)):(w1.setCell ⟨B,0,none⟩ v').heap[j]? = some (.cells c u m):=by
 have hb:B≠j:=by
  rintro rfl
  have:X.heap[B]? = _:=hv
  rw [hj] at this
  cases this
  exact h1 rfl
 have hlt:=(zgE.1 hj).1
 rw [Below.heap_setCell _ _ _ _ hb.symm]
 rw [hgrow.block j (by simp; omega) ?_]
 ·exact (Below.heap_alloc _ _ _ hlt).trans hj
 ·intro e1
  rcases hrow.2 with ⟨rfl,_⟩ | ⟨g,cap,cur,rfl,_,hg,_⟩
  ·cases e1
  ·cases e1
   rw [hj] at hg
   cases hg
   exact h2 rfl
theorem zf5 {X w1:World} {n₀ : Nat} {e:TypeId} {size:Nat} {v:Value} {k:Nat} {xs:List Value} {tmp:Obj} (hrow:X.ownsRow n₀ e size v k xs) (hgrow:(X.alloc tmp).grownBy w1 v.ownBlock) {u:TypeId} (h2:u≠e) {j:Nat} {c:Array Value} {m:Nat×Nat} (hj:X.heap[j]? = some (.cells c u m)):w1.heap[j]? = some (.cells c u m):=by
 have hlt:=(zgE.1 hj).1
 rw [hgrow.block j (by simp; omega) ?_]
 ·exact (Below.heap_alloc _ _ _ hlt).trans hj
 ·intro e1
  rcases hrow.2 with ⟨rfl,_⟩ | ⟨g,cap,cur,rfl,_,hg,_⟩
  ·cases e1
  ·cases e1
   rw [hj] at hg
   cases hg
   exact h2 rfl
theorem zev {P:Program} (w:World) {o:Oper} {a:Act} {K:Act->World->Prop} {Q:Exit->Act->World->Prop}
  (s x:Operand) (t:TypeId) (hop:o.op=Op.call {callee:=Callee.builtin Builtin.append,args:=#[s,x],argTypes:=#[t,t]})
  (base:Nat) (e:TypeId) (i:TypeInfo) (z:Value) (size bytes:Nat) (h1:P.underlying t=some (.slice e)) (h2:P.info? e=some i) (h3:i.zero=some z) (h4:i.size=size) (h5:i.bytes=bytes) (h6:z.cells.size=size) (h7:0<size)
  (v:Value) (k:Nat) (xs:List Value) (hs:a.eval s=v) (hown:w.ownsRow base e size v k xs) (ad:Addr) (m c:Nat) (news:List Value) (hx:a.eval x = .slice (some ad) m c) (hn:news.length=m * size)
  (hc:∀j u,news[j]? = some u->w.cell? (ad.add j)=some u) (h1c:∀u∈news,u.oneCell'=true) (b1:k+m<=maxLen) (b2:(k+m) * bytes<=140737488355328) (b3:base<=w.heap.size)
  (hK:∀v' w',w'.ownsRow base e size v' (k+m) (xs++news)->w.grownBy w' v.ownBlock->K (a.put o.dst v') w'):Oper.wp P o a w K Q:=by
 obtain ⟨v',w',hrun,r1,r2,_⟩:=run_append_own (P:=P) w base t o.type e i z size bytes h1 h2 h3 h4 h5 h6 h7 v k xs hown ad m c news hn hc h1c b1 b2 b3
 unfold Oper.wp
 simp [execOp,hop,resolve,invoke,builtin,hs,hx,hrun,Result.andThen]
 exact hK _ _ r1 r2
def UsesAt (W:World) (v:Value) (l:List Nat):Prop:=W.ownsRow 0 3 1 v l.length (l.map fun f:Nat=>Value.int .i64 f)
def zen (E:List (Tw.T×Value)):List Value:=E.flatMap fun e=>[ug e.1.bname,.int .i64 e.1.bpl,e.2]
theorem znr (E:List (Tw.T×Value)) (t:Tw.T) (u:Value):zen (E ++ [(t,u)])=zen E ++ [ug t.bname,.int .i64 t.bpl,u]:=by
 simp [zen]
def BdAt (W:World) (v:Value) (L:List Tw.T):Prop:=∃E:List (Tw.T×Value),E.map (·.1)=L/\W.ownsRow 0 48 3 v E.length (zen E)/\∀e∈E,UsesAt W e.2 e.1.useS
theorem zr2 (w:World) (a:Value) (t:TypeId):∀j u,[a][j]? = some u->(w.alloc (.cells #[a] t)).cell? ((⟨w.heap.size,0,none⟩:Addr).add j)=some u:=by
 intro j u h
 cases j with
 | zero =>
  cases h
  exact (zag (zad w _)).1
 | succ j=>simp at h
theorem zos {β : Type} (W1:World) {B:Nat} (hB:W1.heap.size<=B):OwnFrom B (fun (_ : β) X=>Below W1.heap.size W1 X):=fun _ X Y row h2 hg hr =>
 ⟨hg.os.trans h2.os,hg.tape.trans h2.tape,hg.output.trans h2.output,Nat.le_trans h2.size hg.size,fun i hi=>(hg.block i (by have:=h2.size; omega) (fun e=>by have:=(hr i e.symm).1; omega)).trans (h2.block i hi)⟩
theorem zpf {B:Nat} {X Y:World} (h:Below X.heap.size X Y):KeepsFrom B X Y:=⟨h.size,fun i _ _ ho _=>(h.block i (zgE.1 ho).1).trans ho⟩
theorem zvx {X Y:World} (h:Below X.heap.size X Y):Kp X Y:=fun k _ _ _ hk _=>(h.block k (zgE.1 hk).1).trans hk
theorem zfd {X Y:World} (h:X.grownBy Y none):Below X.heap.size X Y:=⟨h.os,h.tape,h.output,h.size,fun i hi=>h.block i hi (by simp)⟩
def Tw.T.nodes:Tw.T->Nat
 | .name .. | .int .. | .truth .. | .side .. => 1
 | .bracket _ _ i=>1+i.nodes
 | .pair _ _ a b=>1+a.nodes+b.nodes
 | .call _ _ a b=>1+a.nodes+b.nodes
 | .binary _ _ _ a b=>1+a.nodes+b.nodes
 | .cond _ _ a b c=>1+a.nodes+b.nodes+c.nodes
 | .fn _ _ _ _ a=>1+a.nodes
 | .lett _ _ _ _ _ a b=>1+(a.nodes+b.nodes)
theorem Tw.zbn:∀ {t:Tw.T} {e:Tw.WEn} {w:Nat},(∀x k,e.look x=some k->1<=k)->Tw.zaj t e=some w->1<=w/\(w<=2000->t.nodes<=w)
 | .name _ _ x,e,w,he,h=>by
  simp only [Tw.zaj] at h
  obtain ⟨k,h1,h⟩:=zbE.1 h
  cases h
  have:=he x k h1
  simp only [Tw.T.nodes]
  omega
 | .int ..,_,_,_,h=>by cases h; simp [Tw.T.nodes]
 | .truth ..,_,_,_,h=>by cases h; simp [Tw.T.nodes]
 | .side ..,_,_,_,h=>by cases h; simp [Tw.T.nodes]
 | .bracket _ _ i,e,w,he,h=>by
  simp only [Tw.zaj] at h
  obtain ⟨a,h1,h⟩:=zbE.1 h
  cases h
  have:=zbn he h1
  simp only [Tw.T.nodes]
  omega
 | .pair _ _ l r,e,w,he,h=>by
  simp only [Tw.zaj] at h
  obtain ⟨a,h1,h⟩:=zbE.1 h
  obtain ⟨b,h2,h⟩:=zbE.1 h
  cases h
  have:=zbn he h1
  have:=zbn he h2
  simp only [Tw.T.nodes]
  omega
 | .call _ _ l r,e,w,he,h=>by
  simp only [Tw.zaj] at h
  obtain ⟨a,h1,h⟩:=zbE.1 h
  obtain ⟨b,h2,h⟩:=zbE.1 h
  cases h
  have:=zbn he h1
  have:=zbn he h2
  simp only [Tw.T.nodes]
  omega
 | .binary _ _ _ l r,e,w,he,h=>by
  simp only [Tw.zaj] at h
  obtain ⟨a,h1,h⟩:=zbE.1 h
  obtain ⟨b,h2,h⟩:=zbE.1 h
  cases h
  have:=zbn he h1
  have:=zbn he h2
  simp only [Tw.T.nodes]
  omega
 | .cond _ _ c l r,e,w,he,h=>by
  simp only [Tw.zaj] at h
  obtain ⟨a,h1,h⟩:=zbE.1 h
  obtain ⟨b,h2,h⟩:=zbE.1 h
  obtain ⟨d,h3,h⟩:=zbE.1 h
  cases h
  have:=zbn he h1
  have:=zbn he h2
  have:=zbn he h3
  simp only [Tw.T.nodes]
  omega
 | .fn _ _ n _ b,e,w,he,h=>by
  simp only [Tw.zaj] at h
  obtain ⟨a,h1,h⟩:=zbE.1 h
  cases h
  have:=zbn (e:=.cons n 1 e) (fun x k hk=>by
   simp only [Tw.WEn.look] at hk
   split at hk
   ·cases hk; exact znL _
   ·exact he x k hk) h1
  simp only [Tw.T.nodes]
  omega
 | .lett _ _ rc n _ d b,e,w,he,h=>by
  simp only [Tw.zaj] at h
  obtain ⟨a,h1,h⟩:=zbE.1 h
  obtain ⟨c,h2,h⟩:=zbE.1 h
  cases h
  have ha:=zbn (e:=if rc then .cons n 1 e else e) (fun x k hk=>by
   cases rc with
   | false=>exact he x k hk
   | true =>
    simp only [if_true,Tw.WEn.look] at hk
    split at hk
    ·cases hk; exact znL _
    ·exact he x k hk) h1
  have hc:=zbn (e:=.cons n a e) (fun x k hk=>by
   simp only [Tw.WEn.look] at hk
   split at hk
   ·cases hk; exact ha.1
   ·exact he x k hk) h2
  simp only [Tw.T.nodes]
  omega
theorem zyf {fo:Nat} {l:List UInt8} {t:Tw.T} {sh:List UInt8} (h:Tw.zcd 6100 fo l=some (.fine t sh)):t.nodes<=2000:=by
 obtain ⟨_,body,_,_,_,ht⟩:=Tw.zcw h
 obtain ⟨w,h1,h2⟩:=(Tw.ze4 ht).2.2.1
 exact Nat.le_trans ((Tw.zbn (e:=.nil) (fun x k hk=>by cases hk) h1).2 h2) h2
theorem NDL.len {w:World} {hi:Nat}:∀ {t:Tw.T} {v:Value} {L:List TN},NDL w hi t v L->L.length=t.nodes
 | .name ..,_,_,⟨_,e⟩=>by subst e; rfl
 | .int ..,_,_,⟨_,e⟩=>by subst e; rfl
 | .truth ..,_,_,⟨_,e⟩=>by subst e; rfl
 | .side ..,_,_,⟨_,e⟩=>by subst e; rfl
 | .bracket ..,_,_,⟨_,_,_,n1,e⟩=>by subst e; have:=NDL.len n1; simp [Tw.T.nodes]; omega
 | .pair ..,_,_,⟨_,_,_,_,_,n1,n2,e⟩=>by subst e; have:=NDL.len n1; have:=NDL.len n2; simp [Tw.T.nodes]; omega
 | .call ..,_,_,⟨_,_,_,_,_,n1,n2,e⟩=>by subst e; have:=NDL.len n1; have:=NDL.len n2; simp [Tw.T.nodes]; omega
 | .binary ..,_,_,⟨_,_,_,_,_,n1,n2,e⟩=>by subst e; have:=NDL.len n1; have:=NDL.len n2; simp [Tw.T.nodes]; omega
 | .cond ..,_,_,⟨_,_,_,_,_,_,_,n1,n2,n3,e⟩=>by subst e; have:=NDL.len n1; have:=NDL.len n2; have:=NDL.len n3; simp [Tw.T.nodes]; omega
 | .fn ..,_,_,⟨_,_,_,n1,e⟩=>by subst e; have:=NDL.len n1; simp [Tw.T.nodes]; omega
 | .lett ..,_,_,⟨_,_,_,_,_,n1,n2,e⟩=>by subst e; have:=NDL.len n1; have:=NDL.len n2; simp [Tw.T.nodes]; omega
theorem zpo {w:World} {bt:Nat} {s:ByteArray} {t:Tw.T} {body:List Tw.Tok} (hT:TextAt w bt s t) (hop:Opened s.data.toList t body) (hnn:t.nodes<=2000) :
    Calls Tryz.prog 24 #[.pointer (some ⟨bt,0,none⟩)] w fun e w'=>(∃v,e = .returned v/\BdAt w' v t.binds)/\w.grownBy w' none:=by
  obtain ⟨hi,tv,hb,hr⟩:=hT
  obtain ⟨LN,hN⟩:=NDL.of_rep hr
  obtain ⟨L0,hL0⟩:=NL.of_rep .nil hr
  have hbd:=hN.binds
  have hlen:L0.length<=300:=Nat.le_trans hL0.len hop.small
  have hlenN:LN.length<=2000:=by rw [hN.len]; exact hnn
  have hus:∀x∈zdr LN,∀A,x.bind=some A->(zbq A L0).map (·.fr)=x.t.useS:=fun x hx A hA=>by
    have:=zdg w hi t hL0 hN hop.sp hop.nd (List.mem_filter.1 hx).1 hA (fun z=>by simp [Tw.BEn.look])
    have h2:=congrArg (List.map Prod.fst) this
    rw [List.map_map,List.map_map] at h2
    have e1:(Prod.fst∘useF)=fun x:NB=>x.fr:=rfl
    have e2:(Prod.fst∘useG x.t.bname)=fun x:Nat=>x:=rfl
    rw [e1,e2,List.map_id'] at h2
    exact h2
  have hrepx:∀x∈zdr LN,Rep w 0 hi x.t x.v:=fun x hx=>hN.rep.2 x (List.mem_filter.1 hx).1
  have hcells:=fun z hz=>NL.block hL0 z hz
  obtain ⟨T0,n0,rfl⟩:=hr.iface
  refine (callsIn_wide (n:=3)).1 ?_
  refine callsIn_of_wp_marks Tryz.func24 rfl trivial ?_
  simp only [Tryz.ntmps24,List.size_toArray,List.length_cons,List.length_nil,Nat.reduceAdd,Nat.reduceSub,Array.replicate_succ,Array.replicate_zero,List.push_toArray,List.append_toArray,List.nil_append,List.cons_append]
  obtain ⟨W0,hW0⟩:∃W0,w.alloc (.cells #[.pointer (some ⟨bt,0,none⟩)] 26)=W0:=⟨_,rfl⟩
  have G0:w.grownBy W0 none:=by rw [<-hW0]; exact zwA _ _ none
  have z0:W0.heap.size=w.heap.size+1:=by rw [<-hW0]; simp
  have t0:W0.heap[w.heap.size]? = some (.cells #[.pointer (some ⟨bt,0,none⟩)] 26 (0,0)):=by rw [<-hW0]; exact zad w _
  obtain ⟨W1,hW1⟩:∃W1,W0.alloc (.cells #[.slice none 0 0] 45)=W1:=⟨_,rfl⟩
  have G1:W0.grownBy W1 none:=by rw [<-hW1]; exact zwA _ _ none
  have z1:W1.heap.size=w.heap.size+2:=by rw [<-hW1]; simp; omega
  have b1:W1.heap[w.heap.size+1]? = some (.cells #[.slice none 0 0] 45 (0,0)):=by
    have:=zad W0 (.cells #[.slice none 0 0] 45)
    rw [z0] at this
    rw [<-hW1]
    exact this
  have t1:=zbG G1 t0
  have g1:=zaa G0 G1
  have x1:=zbG g1 hb
  have ct1:=(zag t1).1
  have cx1:W1.cell? ⟨bt,1,none⟩=some (.iface T0 (.pointer (some ⟨n0,0,none⟩))):=zcR x1
  gi_wp2_with fail
  refine ⟨trivial,?_⟩
  refine (callsIn_wide.2 (zry W1 ⟨T0,n0,rfl⟩)).mono ?_
  rintro e1 w3 ⟨rfl,rfl⟩
  obtain ⟨W2,hW2⟩:∃W2,W1.alloc (.cells #[.iface T0 (.pointer (some ⟨n0,0,none⟩))] 68)=W2:=⟨_,rfl⟩
  have G2:W1.grownBy W2 none:=by rw [<-hW2]; exact zwA _ _ none
  have z2:W2.heap.size=w.heap.size+3:=by rw [<-hW2]; simp; omega
  have hne2:W2.heap[w.heap.size+2]? = some (.cells #[.iface T0 (.pointer (some ⟨n0,0,none⟩))] 68 (0,0)):=by
    have:=zad W1 (.cells #[.iface T0 (.pointer (some ⟨n0,0,none⟩))] 68)
    rw [z1] at this
    rw [<-hW2]
    exact this
  have b2:=zbG G2 b1
  have g2:=zaa g1 G2
  have hN2:=hN.kp (Kp.of_grown g2)
  have HUS:=bV hus
  have HRX:=bV hrepx
  have HCE:=bV hcells
  have HL0:=bV hL0
  rw [hW2,z1]
  clear hW0 hW1 hW2 ct1 cx1 hN hus hrepx hcells hr hL0
  gi_wp2_with fail
  refine zhp (p:=12) (d1:=4) rfl (enters_of Tryz.func56 (by kernel_rfl) rfl) (ybf hne2 hN2) (fun h k=>h.trans k) zlj (Below.refl _ _)
    (fun pre X=>(∃(E:List (Tw.T×Value)) (v:Value),E.map (·.1)=pre.map (fun y=>y.1.t)/\Boxed X (w.heap.size+1) 45 v/\X.ownsRow W0.heap.size 48 3 v E.length (zen E)/\∀e∈E,UsesAt X e.2 e.1.useS)/\Below W0.heap.size W0 X)
    (fun _ _ _=>False) ?own ?ownx ?start ?assign ?body ?done ?stop
  case own =>
    rintro s X Y row ⟨⟨E,v,h1,h2,h3,h4⟩,h5⟩ hg hr
    have kc:∀(k:Nat) (c:Array Value) (t:TypeId) (m:Nat×Nat),X.heap[k]? = some (Obj.cells c t m)->Y.heap[k]? = some (Obj.cells c t m):=fun k c t m h=>zea (β := Unit) _ k c t m () X Y row h hg hr
    exact ⟨⟨E,v,h1,kc _ _ _ _ h2,zdp h3 (znL _) (fun g c h=>kc _ _ _ _ h),fun e he=>zdp (h4 e he) (znL _) (fun g c h=>kc _ _ _ _ h)⟩,zos (β := Unit) W0 (by omega) () X Y row h5 hg hr⟩
  case ownx=>rintro c s X Y row h; exact h.elim
  case start=>exact ⟨⟨[],_,rfl,b2,⟨rfl,.inl ⟨rfl,rfl⟩⟩,fun e he=>by cases he⟩,zfd (zaa G1 G2)⟩
  case assign =>
    intro l x X K hK
    simp only [zsA,zsZ,zsS] at hK ⊢
    gi_wp2
    exact hK
  case body =>
    rintro lr pre ⟨x,hx⟩ X hlr ⟨rl,hrl⟩ ⟨⟨E,v,hE,hv,hrow,huse⟩,hbel⟩ hlt
    obtain ⟨A,hA⟩:∃A,x.bind=some A:=Option.isSome_iff_exists.1 (List.mem_filter.1 hx).2
    obtain ⟨kb,o,cb,tb,hAe,hkb,hkt,hc0,hc1⟩:=ztp hA (uh HRX x hx)
    have up:∀ {i:Nat} {ob:Obj},w.heap[i]? = some ob->X.heap[i]? = some ob:=fun {i ob} h=>by
      have hi:=(zgE.1 h).1
      exact (hbel.block i (by omega)).trans ((G0.block i hi (by simp)).trans h)
    have tX:=(hbel.block _ (zgE.1 t0).1).trans t0
    have bX:=up hb
    have ctX:=(zag tX).1
    have cxX:X.cell? ⟨bt,1,none⟩=some (.iface T0 (.pointer (some ⟨n0,0,none⟩))):=zcR bX
    obtain ⟨X1,hX1⟩:∃X1,X.alloc (.cells #[.slice none 0 0] 33)=X1:=⟨_,rfl⟩
    have GX1:X.grownBy X1 none:=by rw [<-hX1]; exact zwA _ _ none
    have zx1:X1.heap.size=X.heap.size+1:=by rw [<-hX1]; simp
    have u1:X1.heap[X.heap.size]? = some (.cells #[.slice none 0 0] 33 (0,0)):=by rw [<-hX1]; exact zad X _
    have ct1:=(zag (zbG GX1 tX)).1
    have cx1:X1.cell? ⟨bt,1,none⟩=some (.iface T0 (.pointer (some ⟨n0,0,none⟩))):=zcR (zbG GX1 bX)
    have HROW:=bV hrow
    have HBEL:=bV hbel
    have HV:=bV hv
    have HU:=bV huse
    have HE:=bV hE
    simp only [zsA,zsZ,zsS,hA,hAe]
    clear hrow hbel hv huse hE ctX cxX
    gi_wp2_with fail
    refine ⟨trivial,rfl,?_⟩
    refine (CallsIn.inRound lr (callsIn_wide.2 (znb X1 ⟨T0,n0,rfl⟩ ⟨kb,o,none⟩))).mono ?_
    rintro e1 w4 ⟨rfl,rfl⟩
    gi_wp2_with fail
    obtain ⟨X2,hX2⟩:∃X2,(X1.alloc (.cells #[.iface T0 (.pointer (some ⟨n0,0,none⟩))] 68)).alloc (.cells #[.pointer (some ⟨kb,o,none⟩)] 79)=X2:=⟨_,rfl⟩
    have g12:X1.grownBy X2 none:=by rw [<-hX2]; exact zae (zae (zab _) _) _
    have r2:X2.heap[X1.heap.size]? = some (.cells #[.iface T0 (.pointer (some ⟨n0,0,none⟩))] 68 (0,0)):=by rw [<-hX2]; exact (zep X1 _ _).2
    have s2:X2.heap[X1.heap.size+1]? = some (.cells #[.pointer (some ⟨kb,o,none⟩)] 79 (0,0)):=by rw [<-hX2]; exact (zep X1 _ _).1
    have gx2:X.grownBy X2 none:=zaa GX1 g12
    have zx2:X2.heap.size=X.heap.size+3:=by rw [<-hX2]; simp; omega
    have kp2:Kp w X2:=fun i c t m hi _=>(gx2.block i (zgE.1 (up hi)).1 (by simp)).trans (up hi)
    have nl2:=(uh HL0).kp kp2
    have blk2:BinBlk X2 ⟨kb,o,none⟩:=⟨cb,tb,kp2 _ _ _ _ hkb hkt,hkt⟩
    have bu2:Boxed X2 X.heap.size 33 (.slice none 0 0):=zbG g12 u1
    have hrl2:X2.heap[lr]? = some (.loop rl):=zbG gx2 hrl
    rw [zx1] at r2 s2
    rw [hX2]
    clear hX1 hX2 ct1 cx1 u1
    refine ybv (p:=19) (d1:=6) hrl2 rfl (enters_of Tryz.func59 (by kernel_rfl) rfl) (zti r2 s2 nl2 blk2) (fun h k=>h.trans k) zlj (Below.refl _ _)
      (fun ipre Y=>(∃u,Boxed Y X.heap.size 33 u/\Y.ownsRow X.heap.size 3 1 u ipre.length (ipre.map fun y=>Value.int .i64 (y.1.fr:Nat))/\True)/\Below X.heap.size X Y)
      (fun _ _ _=>False) ?iown ?iownx ?istart ?iassign ?ibody ?idone ?istop
    case iown =>
      rintro q Y Z row ⟨h1,h2⟩ hg hr
      exact ⟨holdsRow_own (β := List (UIn ⟨kb,o,none⟩ L0)) X.heap.size X.heap.size 33 3 1 (fun ipre=>ipre.length) (fun ipre=>ipre.map fun y=>Value.int .i64 (y.1.fr:Nat)) (fun _ _=>True) q Y Z row h1 hg (fun r e=>(hr r e).2),zos (β := Unit) X (by omega) () Y Z row h2 hg hr⟩
    case iownx=>rintro c q Y Z row h; exact h.elim
    case istart=>exact ⟨⟨_,bu2,⟨rfl,.inl ⟨rfl,rfl⟩⟩,trivial⟩,zfd gx2⟩
    case iassign =>
      intro l x X K hK
      simp only [zsA,zsZ,zsS] at hK ⊢
      gi_wp2
      exact hK
    case ibody =>
      rintro li ipre ⟨y,hy⟩ Y hli hreci ⟨⟨u,hu,hurow,_⟩,hubel⟩ hult
      have hyb:=up (uh HCE y (List.mem_filter.1 hy).1)
      have hyY:=(hubel.block _ (zgE.1 hyb).1).trans hyb
      obtain ⟨y0,y1,y2,_,_,_⟩:=zaf hyY
      have cu:=hu.cell
      have hzy:y.nb<Y.heap.size:=(zgE.1 hyY).1
      have hzu:=hu.lt
      have hii:(Tryz.prog.info? 3).map (fun i=>(i.zero,i.size,i.bytes))=some (some (.int .i64 0),1,8):=by kernel_rfl
      obtain ⟨i0,hi0,hz0,hz1,hz3⟩:=info_parts hii
      obtain ⟨pu,ccu,rfl⟩:=zhb hurow
      have HUR:=bV hurow
      have HUB:=bV hubel
      have HUV:=bV hu
      simp only [zsA,zsZ,zsS]
      clear hurow hubel hu
      gi_wp2_with fail
      have hmx:Tryz.prog.follows .mixedOrders=true:=by kernel_rfl
      gi_region_with_o (first
        | (refine zlx _ _ _ 33 rfl X.heap.size 3 i0 (.int .i64 0) 1 8 Tryz.underlying33 hi0 hz0 hz1 hz3 rfl (by decide) _ _ _ rfl (World.ownsRow.alloc (w:=Y) (uh HUR) _) ⟨Y.heap.size,0,none⟩ 1 1 [.int .i64 y.fr] rfl rfl (zr2 Y _ _) (by intro u hu; simp at hu; subst hu; rfl) (by unfold maxLen; omega) (by omega) (by have:=HUB.out.size; simp; omega) ?_; intro v' w5 hown' hgrow
           have hgrow':(Y.alloc (.cells #[.int .i64 y.fr] 3)).grownBy w5 (Value.slice pu ipre.length ccu).ownBlock:=⟨hgrow.os,hgrow.tape,hgrow.output,hgrow.size,hgrow.block⟩
           obtain ⟨g6,cap6,rfl⟩:=ownsRow_succ hown'
           have hap:=Boxed.appended (uh HUV) (by decide) (uh HUR) HUB.out.size (znL _) hown' hgrow'
           have hc1:=hap.1.cell
           have hf1:=hap.1.frozen))
      all_goals exact ⟨hap.2.2.2.1.from _,zel (uh HUV) (uh HUR) hgrow' (by decide) (by decide),⟨_,hap.2.1,by simp only [List.map_append,List.map_cons,List.map_nil,List.length_append,List.length_cons,List.length_nil,Nat.zero_add]; exact hap.2.2.1,trivial⟩,(uh HUB).trans hap.2.2.2.2⟩
    case idone =>
      rintro ys Y hys ⟨⟨u,hu,hurow,_⟩,hubel⟩
      have hfrs:ys.map (fun y=>Value.int .i64 (y.1.fr:Nat))=x.t.useS.map fun f:Nat=>Value.int .i64 f:=by
        have e1:=uh HUS x hx A hA
        rw [hAe] at e1
        have e2:=congrArg (List.map (fun z:NB=>z.fr)) hys
        rw [e1,List.map_map] at e2
        have e3:=congrArg (List.map (fun f:Nat=>Value.int .i64 f)) e2
        rw [List.map_map] at e3
        exact e3
      have hlen2:ys.length=x.t.useS.length:=by
        have:=congrArg List.length hfrs
        simpa using this
      rw [hfrs,hlen2] at hurow
      have upY:∀ {i:Nat} {ob:Obj},X.heap[i]? = some ob->Y.heap[i]? = some ob:=fun {i ob} h=>(hubel.block i (zgE.1 h).1).trans h
      have hkY:=upY (up hkb)
      have cA0:Y.cell? ⟨kb,o,none⟩=some (ug x.t.bname):=by rw [cell_of_row _ _ _ _ _ _ hkY]; exact hc0
      have cA1:Y.cell? ⟨kb,o+1,none⟩=some (.int .i64 x.t.bat):=by rw [cell_of_row _ _ _ _ _ _ hkY]; exact hc1
      have hvY:Boxed Y (w.heap.size+1) 45 v:=upY (uh HV)
      have hrowY:Y.ownsRow W0.heap.size 48 3 v E.length (zen E):=zdp (uh HROW) (znL _) (fun g c h=>upY h)
      have hElen:E.length=pre.length:=by
        have:=congrArg List.length (uh HE)
        simpa using this
      rw [hElen] at hrowY
      have hpl:pre.length<2000:=Nat.lt_of_lt_of_le hlt hlenN
      have cu:=hu.cell
      have cv:=hvY.cell
      have hzu:=hu.lt
      have hzv:=hvY.lt
      have hzk:kb<Y.heap.size:=(zgE.1 hkY).1
      have hib:(Tryz.prog.info? 48).map (fun i=>(i.zero,i.size,i.bytes))=some (some (.agg #[.string ⟨#[]⟩,.int .i64 0,.slice none 0 0]),3,48):=by kernel_rfl
      obtain ⟨i0,hi0,hz0,hz1,hz3⟩:=info_parts hib
      obtain ⟨pu,ccu,rfl⟩:=zhb hurow
      obtain ⟨pv,ccv,rfl⟩:=zhb hrowY
      have zY:=hubel.size
      have zX:=HBEL.out.size
      have HUR:=bV hurow
      have HUB:=bV hubel
      have HVY:=bV hvY
      have HRY:=bV hrowY
      have HUV:=bV hu
      clear hurow hubel hu hvY hrowY HV HROW
      gi_wp2_with fail
      have hmx:Tryz.prog.follows .mixedOrders=true:=by kernel_rfl
      refine zd1 lr (fun W=>W.cell? ⟨kb,o,none⟩=some (ug x.t.bname)/\W.cell? ⟨kb,o+1,none⟩=some (.int .i64 x.t.bat)/\W.cell? ⟨X.heap.size,0,none⟩=some (.slice pu x.t.useS.length ccu)) hmx (by kernel_rfl) ⟨cA0,cA1,cu⟩ ?_
      intro hSd
      refine wpAnyH_take (i:=1) (v:=.pointer (some ⟨kb,o,none⟩)) rfl (by kernel_rfl) (by kernel_rfl) (by kernel_rfl) ze0 (Or.inl ⟨by rfl,fun W ⟨hSW1,hSW2,hSW3⟩=>by go_simp⟩) hSd ?_
      refine wpAnyH_take (i:=2) (v:=.pointer (some ⟨kb,o,none⟩)) rfl (by kernel_rfl) (by kernel_rfl) (by kernel_rfl) ze0 (Or.inl ⟨by rfl,fun W ⟨hSW1,hSW2,hSW3⟩=>by go_simp⟩) hSd ?_
      refine wpAnyH_take (i:=3) (v:=.pointer (some ⟨kb,o,none⟩)) rfl (by kernel_rfl) (by kernel_rfl) (by kernel_rfl) ze0 (Or.inl ⟨by rfl,fun W ⟨hSW1,hSW2,hSW3⟩=>by go_simp⟩) hSd ?_
      refine wpAnyH_take (i:=4) (v:=ug x.t.bname) rfl (by kernel_rfl) (by kernel_rfl) (by kernel_rfl) ze0 (Or.inl ⟨by rfl,fun W ⟨hSW1,hSW2,hSW3⟩=>by go_simp⟩) hSd ?_
      refine wpAnyH_take (i:=5) (v:=.pointer (some ⟨kb,o,none⟩)) rfl (by kernel_rfl) (by kernel_rfl) (by kernel_rfl) ze0 (Or.inl ⟨by rfl,fun W ⟨hSW1,hSW2,hSW3⟩=>by go_simp⟩) hSd ?_
      refine wpAnyH_take (i:=6) (v:=.pointer (some ⟨kb,o,none⟩)) rfl (by kernel_rfl) (by kernel_rfl) (by kernel_rfl) ze0 (Or.inl ⟨by rfl,fun W ⟨hSW1,hSW2,hSW3⟩=>by go_simp⟩) hSd ?_
      refine wpAnyH_take (i:=7) (v:=.pointer (some ⟨kb,o+1,none⟩)) rfl (by kernel_rfl) (by kernel_rfl) (by kernel_rfl) ze0 (Or.inl ⟨by rfl,fun W ⟨hSW1,hSW2,hSW3⟩=>by go_simp⟩) hSd ?_
      refine wpAnyH_take (i:=8) (v:=.int .i64 x.t.bat) rfl (by kernel_rfl) (by kernel_rfl) (by kernel_rfl) ze0 (Or.inl ⟨by rfl,fun W ⟨hSW1,hSW2,hSW3⟩=>by go_simp⟩) hSd ?_
      refine wpAnyH_take (i:=9) (v:=.slice pu x.t.useS.length ccu) rfl (by kernel_rfl) (by kernel_rfl) (by kernel_rfl) ze0 (Or.inl ⟨by rfl,fun W ⟨hSW1,hSW2,hSW3⟩=>by go_simp⟩) hSd ?_
      refine wpAnyH_take (i:=10) (v:=.agg #[ug x.t.bname,.int .i64 x.t.bat,.slice pu x.t.useS.length ccu]) rfl (by kernel_rfl) (by kernel_rfl) (by kernel_rfl) ze0 (Or.inl ⟨by rfl,fun W ⟨hSW1,hSW2,hSW3⟩=>by go_simp⟩) hSd ?_
      have htb:tb≠48/\tb≠45:=by
        refine ⟨?_,?_⟩ <;> (rintro rfl; revert hkt; decide)
      have tl:∀ {W:World},W.heap[kb]? = some (.cells cb tb (0,0))->W.heap[X.heap.size]? = some (.cells #[.slice pu x.t.useS.length ccu] 33 (0,0))->W.cell? ⟨kb,o,none⟩=some (ug x.t.bname)/\W.cell? ⟨kb,o+1,none⟩=some (.int .i64 x.t.bat)/\W.cell? ⟨X.heap.size,0,none⟩=some (.slice pu x.t.useS.length ccu):=fun {W} h1 h2 =>
        ⟨by rw [cell_of_row _ _ _ _ _ _ h1]; exact hc0,by rw [cell_of_row _ _ _ _ _ _ h1]; exact hc1,(zag h2).1⟩
      have TL:=bV (fun W => @tl W)
      have kA:=(Below.heap_alloc Y (.cells #[ug x.t.bname,.int .i64 x.t.bat,.slice pu x.t.useS.length ccu] 48) _ hzk).trans hkY
      have uA:=(Below.heap_alloc Y (.cells #[ug x.t.bname,.int .i64 x.t.bat,.slice pu x.t.useS.length ccu] 48) _ hzu).trans HUV.out
      have vA:=(Below.heap_alloc Y (.cells #[ug x.t.bname,.int .i64 x.t.bat,.slice pu x.t.useS.length ccu] 48) _ hzv).trans HVY.out
      have KA:=bV (And.intro kA uA)
      have cvA:=(zag vA).1
      clear kA uA vA tl
      refine wpAnyH_ready (rs:=[0,11]) (by kernel_rfl) (by simp) ?_
      refine AllReadyH.cons rfl (fun K hK => ?_) (AllReadyH.cons rfl (fun K hK => ?_) AllReadyH.nil)
      · go_simp
        refine hK.out _ _ hSd (fun hSd => ?_)
        clear hK K
        refine wpAnyH_ready (rs:=[11]) (by kernel_rfl) (by simp) ?_
        refine AllReadyH.cons rfl (fun K hK => ?_) AllReadyH.nil
        go_simp
        refine hK.out _ _ (uh TL _ KA.out.1 KA.out.2) (fun hSd => ?_)
        clear hK K
        refine wpAnyH_ready (rs:=[12]) (by kernel_rfl) (by simp) ?_
        refine AllReadyH.cons rfl (fun K hK => ?_) AllReadyH.nil
        rw [if_pos (by rfl)]
        refine zev _ _ _ 45 rfl W0.heap.size 48 i0 (.agg #[.string ⟨#[]⟩,.int .i64 0,.slice none 0 0]) 3 48 Tryz.underlying45 hi0 hz0 hz1 hz3 rfl (by decide) (.slice pv pre.length ccv) pre.length (zen E) rfl (World.ownsRow.alloc (w:=Y) (uh HRY) _) ⟨Y.heap.size,0,none⟩ 1 1 [ug x.t.bname,.int .i64 x.t.bat,.slice pu x.t.useS.length ccu] rfl rfl (zcl Y _ _ _ _) (by intro u hu; simp at hu; rcases hu with rfl | rfl | rfl <;> rfl) (by unfold maxLen; omega) (by omega) (by simp; omega) ?_
        intro v' w5 hown' hgrow
        have hgrow':(Y.alloc (.cells #[ug x.t.bname,.int .i64 x.t.bat,.slice pu x.t.useS.length ccu] 48)).grownBy w5 (Value.slice pv pre.length ccv).ownBlock:=⟨hgrow.os,hgrow.tape,hgrow.output,hgrow.size,hgrow.block⟩
        obtain ⟨g6,cap6,rfl⟩:=ownsRow_succ hown'
        have hap:=Boxed.appended (uh HVY) (by decide) (uh HRY) (Nat.le_trans zX zY) (by omega) hown' hgrow'
        have hc1':=hap.1.cell
        have hf1:=hap.1.frozen
        refine hK.out _ _ (uh TL _ (zf5 (uh HRY) hgrow' htb.1 hkY) (zf5 (uh HRY) hgrow' (by decide) HUV.out)) (fun hSd => ?_)
        clear hK K
        refine wpAnyH_ready (rs:=[13]) (by kernel_rfl) (by simp) ?_
        refine AllReadyH.cons rfl (fun K hK => ?_) AllReadyH.nil
        go_simp
        refine hK.out _ _ (uh TL _ (zc0 (uh HVY) (uh HRY) hgrow' htb.2 htb.1 hkY) (zc0 (uh HVY) (uh HRY) hgrow' (by decide) (by decide) HUV.out)) (fun hSd => ?_)
        clear hK K
        refine wpAnyH_done (by kernel_rfl) ⟨rfl,?_⟩ _
        refine ⟨za7 (zpf (uh HUB)) (hap.2.2.2.1.from _),(zvx (uh HUB)).trans (zel (uh HVY) (uh HRY) hgrow' (by decide) (by decide)),⟨⟨E ++ [(x.t,.slice pu x.t.useS.length ccu)],_,?_,hap.2.1,?_,?_⟩,?_⟩⟩
        · rw [List.map_append,List.map_append,uh HE]; rfl
        · rw [znr,List.length_append,hElen,<-zpt]; exact hap.2.2.1
        · intro e he
          have third:∀(g:Nat) (c:Array Value),Y.heap[g]? = some (Obj.cells c 3 (0,0))->(w5.setCell ⟨w.heap.size+1,0,none⟩ (.slice (some ⟨g6,0,none⟩) (pre.length+1) cap6)).heap[g]? = some (Obj.cells c 3 (0,0)):=fun g c h=>zc0 (uh HVY) (uh HRY) hgrow' (by decide) (by decide) h
          rcases zmA.1 he with he | he
          · exact zdp (zdp (uh HU e he) (znL _) (fun g c h=>upY h)) (znL _) third
          · rw [List.mem_singleton] at he
            subst he
            exact zdp (uh HUR) (Nat.zero_le _) third
        · exact (uh HBEL).trans (((uh HUB).mono zX).trans hap.2.2.2.2)
      · go_simp
        refine hK.out _ _ (uh TL _ KA.out.1 KA.out.2) (fun hSd => ?_)
        clear hK K
        refine wpAnyH_ready (rs:=[0]) (by kernel_rfl) (by simp) ?_
        refine AllReadyH.cons rfl (fun K hK => ?_) AllReadyH.nil
        go_simp
        refine hK.out _ _ hSd (fun hSd => ?_)
        clear hK K
        refine wpAnyH_ready (rs:=[12]) (by kernel_rfl) (by simp) ?_
        refine AllReadyH.cons rfl (fun K hK => ?_) AllReadyH.nil
        rw [if_pos (by rfl)]
        refine zev _ _ _ 45 rfl W0.heap.size 48 i0 (.agg #[.string ⟨#[]⟩,.int .i64 0,.slice none 0 0]) 3 48 Tryz.underlying45 hi0 hz0 hz1 hz3 rfl (by decide) (.slice pv pre.length ccv) pre.length (zen E) rfl (World.ownsRow.alloc (w:=Y) (uh HRY) _) ⟨Y.heap.size,0,none⟩ 1 1 [ug x.t.bname,.int .i64 x.t.bat,.slice pu x.t.useS.length ccu] rfl rfl (zcl Y _ _ _ _) (by intro u hu; simp at hu; rcases hu with rfl | rfl | rfl <;> rfl) (by unfold maxLen; omega) (by omega) (by simp; omega) ?_
        intro v' w5 hown' hgrow
        have hgrow':(Y.alloc (.cells #[ug x.t.bname,.int .i64 x.t.bat,.slice pu x.t.useS.length ccu] 48)).grownBy w5 (Value.slice pv pre.length ccv).ownBlock:=⟨hgrow.os,hgrow.tape,hgrow.output,hgrow.size,hgrow.block⟩
        obtain ⟨g6,cap6,rfl⟩:=ownsRow_succ hown'
        have hap:=Boxed.appended (uh HVY) (by decide) (uh HRY) (Nat.le_trans zX zY) (by omega) hown' hgrow'
        have hc1':=hap.1.cell
        have hf1:=hap.1.frozen
        refine hK.out _ _ (uh TL _ (zf5 (uh HRY) hgrow' htb.1 hkY) (zf5 (uh HRY) hgrow' (by decide) HUV.out)) (fun hSd => ?_)
        clear hK K
        refine wpAnyH_ready (rs:=[13]) (by kernel_rfl) (by simp) ?_
        refine AllReadyH.cons rfl (fun K hK => ?_) AllReadyH.nil
        go_simp
        refine hK.out _ _ (uh TL _ (zc0 (uh HVY) (uh HRY) hgrow' htb.2 htb.1 hkY) (zc0 (uh HVY) (uh HRY) hgrow' (by decide) (by decide) HUV.out)) (fun hSd => ?_)
        clear hK K
        refine wpAnyH_done (by kernel_rfl) ⟨rfl,?_⟩ _
        refine ⟨za7 (zpf (uh HUB)) (hap.2.2.2.1.from _),(zvx (uh HUB)).trans (zel (uh HVY) (uh HRY) hgrow' (by decide) (by decide)),⟨⟨E ++ [(x.t,.slice pu x.t.useS.length ccu)],_,?_,hap.2.1,?_,?_⟩,?_⟩⟩
        · rw [List.map_append,List.map_append,uh HE]; rfl
        · rw [znr,List.length_append,hElen,<-zpt]; exact hap.2.2.1
        · intro e he
          have third:∀(g:Nat) (c:Array Value),Y.heap[g]? = some (Obj.cells c 3 (0,0))->(w5.setCell ⟨w.heap.size+1,0,none⟩ (.slice (some ⟨g6,0,none⟩) (pre.length+1) cap6)).heap[g]? = some (Obj.cells c 3 (0,0)):=fun g c h=>zc0 (uh HVY) (uh HRY) hgrow' (by decide) (by decide) h
          rcases zmA.1 he with he | he
          · exact zdp (zdp (uh HU e he) (znL _) (fun g c h=>upY h)) (znL _) third
          · rw [List.mem_singleton] at he
            subst he
            exact zdp (uh HUR) (Nat.zero_le _) third
        · exact (uh HBEL).trans (((uh HUB).mono zX).trans hap.2.2.2.2)
    case istop=>rintro c pre X hpre h; exact h.elim
  case done =>
    rintro D xs X hD hxs ⟨⟨E,v,hE,hv,hrow,huse⟩,hbel⟩ hK
    obtain ⟨pv,ccv,rfl⟩:=zhb hrow
    have cv:=hv.cell
    have hput:=grownBy_putObj' X D (.deferred none)
    have kc:∀(g:Nat) (e:TypeId) (c:Array Value),X.heap[g]? = some (Obj.cells c e (0,0))->(X.putObj D (.deferred none)).heap[g]? = some (Obj.cells c e (0,0)):=fun g e c h=>by
      rw [World.putObj_heap_other]
      · exact h
      · rintro rfl
        rw [hK] at h
        cases h
    have hEE:E.map (·.1)=t.binds:=by
      have e2:=congrArg (List.map (fun z:TN=>z.t)) hxs
      rw [hbd,List.map_map] at e2
      exact hE.trans e2
    have FIN:Hid (BdAt (X.putObj D (.deferred none)) (.slice pv E.length ccv) t.binds/\w.grownBy (X.putObj D (.deferred none)) none):=by
      refine ⟨⟨E,hEE,zdp hrow (Nat.zero_le _) (fun g c h=>kc g _ c h),fun e he=>zdp (huse e he) (znL _) (fun g c h=>kc g _ c h)⟩,?_⟩
      refine ⟨hput.os.trans (hbel.os.trans G0.os),hput.tape.trans (hbel.tape.trans G0.tape),hput.output.trans (hbel.output.trans G0.output),by have:=hput.size; have:=hbel.size; omega,fun i hi _ => ?_⟩
      exact (hput.block i (by have:=hbel.size; omega) (fun e=>by cases e; omega)).trans ((hbel.block i (by omega)).trans (G0.block i hi (by simp)))
    clear hrow huse hv hbel hput kc hE
    gi_wp2_with fail
    refine ⟨by simp,.inl ⟨_,_,rfl,run_takeDeferred hK,?_⟩⟩
    refine ⟨.slice pv E.length ccv,?_,⟨_,rfl,FIN.out.1⟩,FIN.out.2⟩
    simp [results,Tryz.results24,go_sem]
  case stop=>intro D c pre X hD hpre h; exact h.elim
end Go.Proofs.YtckhafpejefbbaaGreatDoor 
namespace Go.Proofs.YtckhafpejefbbaaGreatDoor
open Go.RowKit Go.Shelf
theorem zyg {w w1 w2:World} {b:Nat} (h:w.grownBy w1 none) (k:w1.grownBy w2 (some b)) (hb:w.heap.size<=b):w.grownBy w2 none :=
 ⟨k.os.trans h.os,k.tape.trans h.tape,k.output.trans h.output,Nat.le_trans h.size k.size,fun i hi _=>(k.block i (Nat.lt_of_lt_of_le hi h.size) (fun e=>by cases e; omega)).trans (h.block i hi (by simp))⟩
def zfv (fr bf:Nat) (l:List UInt8) (d:Tw.T) (U:List NB):List (Nat×Nat×List UInt8):=(fr,bf,[])::U.map fun y=>(y.fr,y.to,Tw.Inl.zch l d y.fr)
theorem zns (fr bf:Nat) (l:List UInt8) (d:Tw.T) (U:List NB):(zfv fr bf l d U).length=U.length+1:=by simp [zfv]
theorem ybw (l:List UInt8) (d:Tw.T) (f:Nat):(Tw.Inl.zch l d f).length<=l.length+2:=by
 simp only [Tw.Inl.zch]
 split <;> simp [Tw.zaw] <;> omega
theorem zml (fr bf:Nat) (l:List UInt8) (d:Tw.T) (U:List NB) (y:NB):zcb (zfv fr bf l d (U ++ [y]))=zcb (zfv fr bf l d U) ++ [.int .i64 y.fr,.int .i64 y.to,ug (Tw.Inl.zch l d y.fr)]:=by
 simp only [zfv,zcb,List.map_append,List.flatMap_cons,List.flatMap_append,List.map_cons,List.map_nil,List.flatMap_nil,List.append_nil,List.append_assoc]
attribute [local go_sem] ztn zq0 zto zx4 zq1 zq2 zq3
theorem zvy (hB:Said.Builder) {w:World} {hi:Nat} {t:Tw.T} {tv:Value} {LN:List TN} {s:ByteArray} {a:Int} {fr to bat b:Nat} {bn:List UInt8} {d bo:Tw.T} {dv bv:Value} (hn:NDL w hi t tv LN) (hnear:∀x∈LN,x.t.near) (hit:hitL a LN=some ⟨.lett fr to false bn bat d bo,.iface 136 (.pointer (some ⟨b,0,none⟩))⟩)
  (hb:w.heap[b]? = some (.cells #[.int .i64 fr,.int .i64 to,.bool false,ug bn,.int .i64 bat,dv,bv] 140 (0,0)))
  (hd:Rep w 0 hi d dv) (hbo:Rep w 0 hi bo bv) {LU:List NB} (hnl:NL w hi (.lett fr to false bn bat d bo) (.iface 136 (.pointer (some ⟨b,0,none⟩))) .nil LU) (hL:LU.length<=300) (huse:∀y∈zbq ⟨b,3,none⟩ LU,0<y.fr/\y.fr<=s.size) (hs:s.size<=300) (hdf:d.fr<=d.to) (hdt:d.to<=s.size) (hok:ChOk s.size 0 (zfv fr bo.fr s.data.toList d (zbq ⟨b,3,none⟩ LU)))
  (hv:∀W,w.grownBy W none->Calls Tryz.prog 61 #[tv,dv] W fun r w'=>r = .returned (.bool true)/\W.grownBy w' none)
  (hc:∀W,w.grownBy W none->Calls Tryz.prog 62 #[.pointer (some ⟨b,0,none⟩)] W fun r w'=>r = .returned (.bool false)/\W.grownBy w' none) :
  Calls Tryz.prog 38 #[.string s,tv,.int .i64 a] w fun e w'=>e = .returned (.tuple #[.string ⟨(Tw.chgR 0 s.data.toList (zfv fr bo.fr s.data.toList d (zbq ⟨b,3,none⟩ LU))).toArray⟩,.int .i64 0])/\w.grownBy w' none:=by
 obtain ⟨T0,n0,rfl⟩:=hn.iface
 refine (callsIn_wide (n:=3)).1 ?_
 refine callsIn_of_wp_marks Tryz.func38 rfl trivial ?_
 simp only [Tryz.ntmps38,List.size_toArray,List.length_cons,List.length_nil,Nat.reduceAdd,Nat.reduceSub,Array.replicate_succ,Array.replicate_zero,List.push_toArray,List.append_toArray,List.nil_append,List.cons_append]
 have n0':=zad w (.cells #[.string s] 9)
 have G0:w.grownBy (w.alloc (.cells #[.string s] 9)) none:=zwA _ _ none
 have q6:=zcv (some ⟨b,0,none⟩)
 gi_wp2_with fail
 refine ⟨trivial,?_⟩
 refine (callsIn_wide.2 (zek (hn.kp (Kp.of_grown G0)) hnear a)).mono ?_
 rintro e1 w1 ⟨rfl,hg1⟩
 rw [hit]
 have G1:=bV (zaa G0 hg1)
 have T1:=bV (zbG hg1 n0')
 have HV:=bV hv
 have HC:=bV hc
 obtain ⟨TD,nd,rfl⟩:=hd.iface
 obtain ⟨bb,_,_,rfl,_,_⟩:=hbo.node
 obtain ⟨W2,hW2⟩:∃W2,w1.alloc (.cells #[.pointer (some ⟨b,0,none⟩)] 136)=W2:=⟨_,rfl⟩
 have G2:=bV (show w.grownBy W2 none from by rw [<-hW2]; exact zae G1.out _)
 have l2:W2.heap[w1.heap.size]? = some (.cells #[.pointer (some ⟨b,0,none⟩)] 136 (0,0)):=by rw [<-hW2]; exact zad w1 _
 have t2:W2.heap[w.heap.size]? = some (.cells #[.string s] 9 (0,0)):=by rw [<-hW2]; exact (Below.heap_alloc _ _ _ (zgE.1 (uh T1)).1).trans (uh T1)
 have LB:Hid (∀W,w.grownBy W none->W.heap[b]? = some (.cells #[.int .i64 fr,.int .i64 to,.bool false,ug bn,.int .i64 bat,.iface TD (.pointer (some ⟨nd,0,none⟩)),.iface (ptrT bo) (.pointer (some ⟨bb,0,none⟩))] 140 (0,0))):=bV fun W hW=>zbG hW hb
 have cl2:=(zag l2).1
 have cb2:W2.cell? ⟨b,2,none⟩=some (.bool false):=zcR (uh LB _ G2.out)
 have cb5:W2.cell? ⟨b,5,none⟩=some (.iface TD (.pointer (some ⟨nd,0,none⟩))):=zcR (uh LB _ G2.out)
 have L2:=bV (And.intro l2 t2)
 have HBO:=bV hbo
 have HD:=bV hd
 simp only [zny]
 clear G0 hg1 n0' hb hv hc hit l2 t2 hd hbo
 gi_wp2_with fail
 refine ⟨trivial,?_⟩
 refine (callsIn_wide.2 (uh HV _ G2.out)).mono ?_
 rintro e1 w3 ⟨rfl,hg3⟩
 have G3:=bV (zaa G2.out hg3)
 have up3:∀ {i:Nat} {ob:Obj},W2.heap[i]? = some ob->w3.heap[i]? = some ob:=fun {i ob} h=>(hg3.block i (zgE.1 h).1 (by simp)).trans h
 have L3:=bV (And.intro (up3 L2.out.1) (up3 L2.out.2))
 have cl3:=(zag L3.out.1).1
 clear hg3 up3 cl2 cb2 cb5 L2 hW2
 gi_wp2_with fail
 refine ⟨trivial,?_⟩
 refine (callsIn_wide.2 (uh HC _ G3.out)).mono ?_
 rintro e1 w4 ⟨rfl,hg4⟩
 have G4:=bV (zaa G3.out hg4)
 have up4:∀ {i:Nat} {ob:Obj},w3.heap[i]? = some ob->w4.heap[i]? = some ob:=fun {i ob} h=>(hg4.block i (zgE.1 h).1 (by simp)).trans h
 have L4:=bV (And.intro (up4 L3.out.1) (up4 L3.out.2))
 clear hg4 up4 cl3 L3
 gi_wp2_with fail
 have hmx:Tryz.prog.follows .mixedOrders=true:=by kernel_rfl
 have CE:Hid (∀W,w4.grownBy W none->W.cell? ⟨w1.heap.size,0,none⟩=some (.pointer (some ⟨b,0,none⟩))/\W.cell? ⟨b,0,none⟩=some (.int .i64 fr)/\W.cell? ⟨b,6,none⟩=some (.iface (ptrT bo) (.pointer (some ⟨bb,0,none⟩)))):=bV fun W hW=>by
  have h1:=uh LB W (zaa G4.out hW)
  exact ⟨(zag (zbG hW L4.out.1)).1,zcR h1,zcR h1⟩
 have HPL:Hid (∀W,w4.grownBy W none→Sem.run Tryz.prog (method 517 (ptrT bo) (.pointer (some ⟨bb,0,none⟩)) "Place") W = .ok (266,.agg #[.int .i64 bo.fr,.int .i64 bo.to]) W):=bV fun W hW=>by
  obtain ⟨b',_,_,e,c0,c1⟩:=((uh HBO).kp (Kp.of_grown (zaa G4.out hW))).node
  cases e
  exact zg3 bo bb W bo.fr bo.to c0 c1
 refine wpIn_mono (Q:=Exit.then (fun a' W=>∃bx,a' = {tmps:=#[Value.string s,Value.iface T0 (Value.pointer (some {block:=n0,off:=0})),Value.int IntKind.i64 a,Value.pointer (some {block:=w.heap.size,off:=0}),undef,undef,Value.string {data:=#[]},Value.int IntKind.i64 0,Value.pointer (some {block:=w1.heap.size,off:=0}),Value.bool true,Value.pointer (some {block:=bx,off:=0}),undef,undef,Value.tuple #[Value.pointer (some {block:=b,off:=0}),Value.bool true],Value.iface T0 (Value.pointer (some {block:=n0,off:=0})),Value.int IntKind.i64 a,Value.iface 136 (Value.pointer (some {block:=b,off:=0})),Value.tuple #[Value.pointer (some {block:=b,off:=0}),Value.bool true],Value.pointer (some {block:=b,off:=0}),Value.bool true,Value.bool false,Value.bool true,Value.bool false,Value.bool false,Value.pointer (some {block:=b,off:=0}),Value.pointer (some {block:=b,off:=0}),Value.pointer (some {block:=b,off:=2}),Value.bool false,Value.bool false,Value.bool false,Value.iface T0 (Value.pointer (some {block:=n0,off:=0})),Value.pointer (some {block:=b,off:=0}),Value.pointer (some {block:=b,off:=0}),Value.pointer (some {block:=b,off:=5}),Value.iface TD (Value.pointer (some {block:=nd,off:=0})),Value.bool true,Value.bool false,Value.bool false,Value.pointer (some {block:=b,off:=0}),Value.bool false,Value.pointer (some {block:=b,off:=0}),Value.pointer (some {block:=b,off:=0}),Value.pointer (some {block:=b,off:=0}),Value.pointer (some {block:=b,off:=0}),Value.int IntKind.i64 ↑fr,Value.pointer (some {block:=b,off:=0}),Value.pointer (some {block:=b,off:=0}),Value.pointer (some {block:=b,off:=6}),Value.iface (ptrT bo) (Value.pointer (some {block:=bb,off:=0})),Value.agg #[Value.int IntKind.i64 ↑bo.fr,Value.int IntKind.i64 ↑bo.to],Value.int IntKind.i64 ↑bo.fr,Value.agg #[Value.int IntKind.i64 ↑fr,Value.int IntKind.i64 ↑bo.fr],undef,undef,undef,undef,undef,undef,undef,undef,undef,undef,undef,undef,undef,undef,undef,undef,undef,undef,undef,undef,undef,undef,undef,undef,undef,undef,undef,undef],defers:=[]}/\W.heap[bx]? = some (.cells #[.int .i64 fr,.int .i64 bo.fr] 85 (0,0))/\w4.grownBy W none/\w4.heap.size<=bx) (fun _ _ _=>False)) ?_ ?_
 ·refine zpe (fun W=>W.cell? ⟨w1.heap.size,0,none⟩=some (.pointer (some ⟨b,0,none⟩))/\W.cell? ⟨b,0,none⟩=some (.int .i64 fr)/\W.cell? ⟨b,6,none⟩=some (.iface (ptrT bo) (.pointer (some ⟨bb,0,none⟩)))) hmx (uh CE _ (zac (zab _))) ?_
  intro hSd
  refine tkH 0 (oi:=⟨some 40,.load 136 (.tmp 8),136,"inline.go:21",#[],none⟩) (v:=.pointer (some ⟨b,0,none⟩)) rfl (fun W ⟨hs1,hs2,hs3⟩=>by go_simp) hSd ?_
  simp only [Act.put,zsA,zsZ,zsS]
  refine tkH 1 (oi:=⟨some 41,.nilCheck (.tmp 40),0,"inline.go:21",#[⟨0,.data⟩],none⟩) (v:=.pointer (some ⟨b,0,none⟩)) rfl (fun W ⟨hs1,hs2,hs3⟩=>by go_simp) hSd ?_
  simp only [Act.put,zsA,zsZ,zsS]
  refine tkH 2 (oi:=⟨some 42,.fieldAddr 140 (.tmp 41) 0,0,"inline.go:21",#[⟨1,.data⟩],none⟩) (v:=.pointer (some ⟨b,0,none⟩)) rfl (fun W ⟨hs1,hs2,hs3⟩=>by go_simp) hSd ?_
  simp only [Act.put,zsA,zsZ,zsS]
  refine tkH 3 (oi:=⟨some 43,.fieldAddr 85 (.tmp 42) 0,0,"inline.go:21",#[⟨2,.data⟩],none⟩) (v:=.pointer (some ⟨b,0,none⟩)) rfl (fun W ⟨hs1,hs2,hs3⟩=>by go_simp) hSd ?_
  simp only [Act.put,zsA,zsZ,zsS]
  refine tkH 4 (oi:=⟨some 44,.load 3 (.tmp 43),3,"inline.go:21",#[⟨3,.data⟩],none⟩) (v:=.int .i64 fr) rfl (fun W ⟨hs1,hs2,hs3⟩=>by go_simp) hSd ?_
  simp only [Act.put,zsA,zsZ,zsS]
  refine tkH 5 (oi:=⟨some 45,.load 136 (.tmp 8),136,"inline.go:21",#[],none⟩) (v:=.pointer (some ⟨b,0,none⟩)) rfl (fun W ⟨hs1,hs2,hs3⟩=>by go_simp) hSd ?_
  simp only [Act.put,zsA,zsZ,zsS]
  refine tkH 6 (oi:=⟨some 46,.nilCheck (.tmp 45),0,"inline.go:21",#[⟨5,.data⟩],none⟩) (v:=.pointer (some ⟨b,0,none⟩)) rfl (fun W ⟨hs1,hs2,hs3⟩=>by go_simp) hSd ?_
  simp only [Act.put,zsA,zsZ,zsS]
  refine tkH 7 (oi:=⟨some 47,.fieldAddr 140 (.tmp 46) 4,0,"inline.go:21",#[⟨6,.data⟩],none⟩) (v:=.pointer (some ⟨b,6,none⟩)) rfl (fun W ⟨hs1,hs2,hs3⟩=>by go_simp) hSd ?_
  simp only [Act.put,zsA,zsZ,zsS]
  refine tkH 8 (oi:=⟨some 48,.load 68 (.tmp 47),68,"inline.go:21",#[⟨7,.data⟩],none⟩) (v:=.iface (ptrT bo) (.pointer (some ⟨bb,0,none⟩))) rfl (fun W ⟨hs1,hs2,hs3⟩=>by go_simp) hSd ?_
  simp only [Act.put,zsA,zsZ,zsS]
  refine wpAnyH_ready (rs:=[9,12]) (by kernel_rfl) (by simp) ?_
  refine AllReadyH.cons (o:=⟨some 49,.call ⟨.invoke (.tmp 48) "Place",#[],#[]⟩,85,"inline.go:21",#[⟨8,.data⟩],none⟩) rfl (fun K hK => ?_) (AllReadyH.cons (o:=⟨some 10,.alloc 85,0,"inline.go:21",#[],none⟩) rfl (fun K hK => ?_) AllReadyH.nil)
  ·have hp:=uh HPL w4.drew (zac (zab _))
   go_simp
   refine (ze8 _ _ _).mono ?_
   rintro e1 X2 ⟨rfl,hg⟩
   have GX:=bV (zaa (zac (zab w4)) hg)
   refine hK.out _ _ (uh CE _ GX.out) (fun hSd => ?_)
   clear hK K hg hp
   refine tkH 10 (oi:=⟨some 50,.field 85 (.tmp 49) 0,3,"inline.go:21",#[⟨9,.data⟩],none⟩) (v:=.int .i64 bo.fr) rfl (fun W _=>by kernel_rfl) hSd ?_
   simp only [Act.put,zsA,zsZ,zsS]
   refine tkH 11 (oi:=⟨some 51,.build 85 #[(0,.tmp 44),(1,.tmp 50)],85,"inline.go:21",#[⟨4,.data⟩,⟨10,.data⟩],none⟩) (v:=.agg #[.int .i64 fr,.int .i64 bo.fr]) rfl (fun W ⟨hs1,hs2,hs3⟩=>by go_simp) hSd ?_
   simp only [Act.put,zsA,zsZ,zsS]
   refine wpAnyH_ready (rs:=[12]) (by kernel_rfl) (by simp) ?_
   refine AllReadyH.cons (o:=⟨some 10,.alloc 85,0,"inline.go:21",#[],none⟩) rfl (fun K hK => ?_) AllReadyH.nil
   go_simp
   refine hK.out _ _ (uh CE _ (zae GX.out _)) (fun hSd => ?_)
   clear hK K
   refine wpAnyH_ready (rs:=[13]) (by kernel_rfl) (by simp) ?_
   refine AllReadyH.cons (o:=⟨none,.store 85 (.tmp 10) (.tmp 51),0,"inline.go:21",#[⟨12,.data⟩,⟨11,.data⟩,⟨9,.chain⟩,⟨0,.phase⟩,⟨1,.phase⟩,⟨2,.phase⟩,⟨3,.phase⟩,⟨4,.phase⟩,⟨5,.phase⟩,⟨6,.phase⟩,⟨7,.phase⟩,⟨8,.phase⟩,⟨9,.phase⟩,⟨10,.phase⟩,⟨11,.phase⟩,⟨12,.phase⟩],none⟩) rfl (fun K hK => ?_) AllReadyH.nil
   go_simp
   refine hK.out _ _ (uh CE _ (zae GX.out _)) (fun hSd => ?_)
   clear hK K
   refine wpAnyH_done (by kernel_rfl) ⟨rfl,⟨_,rfl,zad X2 _,zae GX.out _,GX.out.size⟩⟩ _
  ·go_simp
   refine hK.out _ _ (uh CE _ (zac (zae (zab _) _))) (fun hSd => ?_)
   clear hK K
   refine wpAnyH_ready (rs:=[9]) (by kernel_rfl) (by simp) ?_
   refine AllReadyH.cons (o:=⟨some 49,.call ⟨.invoke (.tmp 48) "Place",#[],#[]⟩,85,"inline.go:21",#[⟨8,.data⟩],none⟩) rfl (fun K hK => ?_) AllReadyH.nil
   have hp:=uh HPL (w4.alloc (.cells #[.int .i64 0,.int .i64 0] 85)).drew (zac (zae (zab _) _))
   go_simp
   refine (ze8 _ _ _).mono ?_
   rintro e1 X2 ⟨rfl,hg⟩
   have GX:=bV (zaa (zac (zae (zab w4) _)) hg)
   have x0:X2.heap[w4.heap.size]? = some (.cells #[.int .i64 0,.int .i64 0] 85 (0,0)):=(hg.block _ (by simp [World.drew]) (by simp)).trans (zad w4 _)
   obtain ⟨x1,x2,x3,x4⟩:=zau x0
   have x5:=zze (u':=.int .i64 fr) (v':=.int .i64 bo.fr) x0
   have GY:=bV (zyg GX.out x5.2 (znL _))
   refine hK.out _ _ (uh CE _ GX.out) (fun hSd => ?_)
   clear hK K hg hp x0
   refine tkH 10 (oi:=⟨some 50,.field 85 (.tmp 49) 0,3,"inline.go:21",#[⟨9,.data⟩],none⟩) (v:=.int .i64 bo.fr) rfl (fun W _=>by kernel_rfl) hSd ?_
   simp only [Act.put,zsA,zsZ,zsS]
   refine tkH 11 (oi:=⟨some 51,.build 85 #[(0,.tmp 44),(1,.tmp 50)],85,"inline.go:21",#[⟨4,.data⟩,⟨10,.data⟩],none⟩) (v:=.agg #[.int .i64 fr,.int .i64 bo.fr]) rfl (fun W ⟨hs1,hs2,hs3⟩=>by go_simp) hSd ?_
   simp only [Act.put,zsA,zsZ,zsS]
   refine wpAnyH_ready (rs:=[13]) (by kernel_rfl) (by simp) ?_
   refine AllReadyH.cons (o:=⟨none,.store 85 (.tmp 10) (.tmp 51),0,"inline.go:21",#[⟨12,.data⟩,⟨11,.data⟩,⟨9,.chain⟩,⟨0,.phase⟩,⟨1,.phase⟩,⟨2,.phase⟩,⟨3,.phase⟩,⟨4,.phase⟩,⟨5,.phase⟩,⟨6,.phase⟩,⟨7,.phase⟩,⟨8,.phase⟩,⟨9,.phase⟩,⟨10,.phase⟩,⟨11,.phase⟩,⟨12,.phase⟩],none⟩) rfl (fun K hK => ?_) AllReadyH.nil
   go_simp
   refine hK.out _ _ (uh CE _ GY.out) (fun hSd => ?_)
   clear hK K
   refine wpAnyH_done (by kernel_rfl) ⟨rfl,⟨_,rfl,x5.1,GY.out,znL _⟩⟩ _
 ·rintro e a' W5 h
  cases e with
  | normal =>
   obtain ⟨bx,rfl,a5,g5,hbx⟩:=h
   clear CE HPL
   obtain ⟨ca0,ca1,_,_⟩:=zau a5
   have g05:=zaa G4.out g5
   obtain ⟨W6,hW6⟩:∃W6,(W5.alloc (.cells #[.int .i64 fr,.int .i64 bo.fr,.string ⟨#[]⟩] 145)).alloc (.cells #[.slice (some ⟨W5.heap.size,0,none⟩) 1 1] 146)=W6:=⟨_,rfl⟩
   have g6:W5.grownBy W6 none:=by rw [<-hW6]; exact zae (zae (zab _) _) _
   have ch6:W6.heap[W5.heap.size]? = some (.cells #[.int .i64 fr,.int .i64 bo.fr,.string ⟨#[]⟩] 145 (0,0)):=by rw [<-hW6]; exact (zep W5 _ _).2
   have bx6:W6.heap[W5.heap.size+1]? = some (.cells #[.slice (some ⟨W5.heap.size,0,none⟩) 1 1] 146 (0,0)):=by rw [<-hW6]; exact (zep W5 _ _).1
   have l5:=zbG g5 L4.out.1
   have t5:=zbG g5 L4.out.2
   have l6:=zbG g6 l5
   have hz1:w1.heap.size<W5.heap.size:=(zgE.1 l5).1
   have hz0:w.heap.size<W5.heap.size:=(zgE.1 t5).1
   have CL:Hid (∀W,W6.grownBy W none->W.cell? ⟨w1.heap.size,0,none⟩=some (.pointer (some ⟨b,0,none⟩))):=bV fun W hW=>(zag (zbG hW l6)).1
   have H5:=bV (And.intro l5 t5)
   have HX6:=bV (And.intro ch6 bx6)
   clear l6 l5 t5 ch6 bx6
   gi_wp2_with fail
   refine zpe (fun W=>W.cell? ⟨w1.heap.size,0,none⟩=some (.pointer (some ⟨b,0,none⟩))) hmx (uh CL _ (zac (zab _))) ?_
   intro hSd
   refine tkH 0 (oi:=⟨some 55,.load 136 (.tmp 8),136,"inline.go:23",#[],none⟩) (v:=.pointer (some ⟨b,0,none⟩)) rfl (fun W hSW=>by go_simp) hSd ?_
   simp only [Act.put,zsA,zsZ,zsS]
   refine tkH 1 (oi:=⟨some 56,.makeInterface 136 (.tmp 55),68,"inline.go:23",#[⟨0,.data⟩],none⟩) (v:=.iface 136 (.pointer (some ⟨b,0,none⟩))) rfl (fun W _=>by go_simp) hSd ?_
   simp only [Act.put,zsA,zsZ,zsS]
   refine tkH 2 (oi:=⟨some 57,.load 136 (.tmp 8),136,"inline.go:23",#[],none⟩) (v:=.pointer (some ⟨b,0,none⟩)) rfl (fun W hSW=>by go_simp) hSd ?_
   simp only [Act.put,zsA,zsZ,zsS]
   refine tkH 3 (oi:=⟨some 58,.nilCheck (.tmp 57),0,"inline.go:23",#[⟨2,.data⟩],none⟩) (v:=.pointer (some ⟨b,0,none⟩)) rfl (fun W _=>by go_simp) hSd ?_
   simp only [Act.put,zsA,zsZ,zsS]
   refine tkH 4 (oi:=⟨some 59,.fieldAddr 140 (.tmp 58) 2,0,"inline.go:23",#[⟨3,.data⟩],none⟩) (v:=.pointer (some ⟨b,3,none⟩)) rfl (fun W _=>by go_simp) hSd ?_
   simp only [Act.put,zsA,zsZ,zsS]
   refine wpAnyH_ready (rs:=[5]) (by kernel_rfl) (by simp) ?_
   refine AllReadyH.cons (o:=⟨some 60,.call ⟨.value (.func 36),#[.tmp 56,.tmp 59],#[68,79]⟩,81,"inline.go:23",#[⟨1,.data⟩,⟨4,.data⟩],none⟩) rfl (fun K hK => ?_) AllReadyH.nil
   go_simp
   refine (znb W6.drew ⟨_,_,rfl⟩ ⟨b,3,none⟩).mono ?_
   rintro e1 w7 ⟨rfl,rfl⟩
   obtain ⟨W7,hW7⟩:∃W7,(W6.drew.alloc (.cells #[.iface 136 (.pointer (some ⟨b,0,none⟩))] 68)).alloc (.cells #[.pointer (some ⟨b,3,none⟩)] 79)=W7:=⟨_,rfl⟩
   have g7:W6.grownBy W7 none:=by rw [<-hW7]; exact zae (zae (zac (zab _)) _) _
   have r7:W7.heap[W6.drew.heap.size]? = some (.cells #[.iface 136 (.pointer (some ⟨b,0,none⟩))] 68 (0,0)):=by rw [<-hW7]; exact (zep W6.drew _ _).2
   have s7:W7.heap[W6.drew.heap.size+1]? = some (.cells #[.pointer (some ⟨b,3,none⟩)] 79 (0,0)):=by rw [<-hW7]; exact (zep W6.drew _ _).1
   rw [hW7]
   refine hK.out _ _ (uh CL _ g7) (fun _ => ?_)
   clear hK K hSd CL
   refine wpAnyH_done (by kernel_rfl) ⟨rfl,?_⟩ _
   have g57:=zaa g6 g7
   have kp7:Kp w W7:=Kp.of_grown (zaa g05 g57)
   have nl7:=hnl.kp kp7
   have blk7:BinBlk W7 ⟨b,3,none⟩:=⟨_,_,uh LB _ (zaa g05 g57),by decide⟩
   have bx7:Boxed W7 (W5.heap.size+1) 146 (.slice (some ⟨W5.heap.size,0,none⟩) 1 1):=zbG g7 HX6.out.2
   have ch7:=zbG g7 HX6.out.1
   have HCE:=bV (fun z hz=>NL.block hnl z hz)
   have HUSE:=bV huse
   have z7:=g57.size
   have z67:=g7.size
   have z6:W6.heap.size=W5.heap.size+2:=by rw [<-hW6]; simp
   have z0w:=G4.out.size
   clear hW6 hW7 hnl huse HX6 ca0 ca1
   gi_wp2_with fail
   refine zhp (p:=61) (d1:=12) rfl (enters_of Tryz.func59 (by kernel_rfl) rfl) (zti r7 s7 nl7 blk7) (fun h k=>h.trans k) zlj (Below.refl _ _)
    (fun pre X=>(∃v,Boxed X (W5.heap.size+1) 146 v/\X.ownsRow W5.heap.size 145 3 v (pre.length+1) (zcb (zfv fr bo.fr s.data.toList d (pre.map (·.1))))/\True)/\Below W5.heap.size W5 X)
    (fun _ _ _=>False) ?own ?ownx ?start ?assign ?body ?done ?stop
   case own =>
    rintro q X Y row ⟨h1,h2⟩ hg hr
    exact ⟨holdsRow_own (β := List (UIn ⟨b,3,none⟩ LU)) W5.heap.size (W5.heap.size+1) 146 145 3 (fun pre=>pre.length+1) (fun pre=>zcb (zfv fr bo.fr s.data.toList d (pre.map (·.1)))) (fun _ _=>True) q X Y row h1 hg (fun r e=>(hr r e).2),zos (β := Unit) W5 z7 () X Y row h2 hg hr⟩
   case ownx=>rintro c q X Y row h; exact h.elim
   case start=>exact ⟨⟨_,bx7,⟨by rw [zkr,zns]; rfl,.inr ⟨W5.heap.size,1,_,rfl,znL _,ch7,znL _,by decide,rfl,rfl⟩⟩,trivial⟩,zfd g57⟩
   case assign =>
    intro l x X K hK
    simp only [zsA,zsZ,zsS] at hK ⊢
    gi_wp2
    exact hK
   case body =>
    rintro lr pre ⟨y,hy⟩ X hlr hrec ⟨⟨v,hv',hrow,_⟩,hbel⟩ hlt
    obtain ⟨pv,ccv,rfl⟩:=zhb hrow
    have up:∀ {i:Nat} {ob:Obj},W5.heap[i]? = some ob->X.heap[i]? = some ob:=fun {i ob} h=>(hbel.block i (zgE.1 h).1).trans h
    have upw:∀ {i:Nat} {ob:Obj},w.heap[i]? = some ob->X.heap[i]? = some ob:=fun {i ob} h=>up ((g05.block i (zgE.1 h).1 (by simp)).trans h)
    have hyX:=upw (uh HCE y (List.mem_filter.1 hy).1)
    have bX:=up (uh LB _ g05)
    have lX:=up H5.out.1
    have tX:=up H5.out.2
    have kpX:Kp w X:=fun i c t m hi _=>upw hi
    have huy:=uh HUSE y hy
    have HIP:Hid (∀Z,X.grownBy Z none->Calls Tryz.prog 63 #[.pointer (some ⟨y.nb,0,none⟩),.iface TD (.pointer (some ⟨nd,0,none⟩)),.string s] Z fun r w'=>r = .returned (ug (Tw.Inl.zch s.data.toList d y.fr))/\Z.grownBy w' none):=bV fun Z hZ=>zr1 ((uh HD).kp (kpX.trans (Kp.of_grown hZ))) (zbG hZ hyX) huy.1 huy.2 hs hdf hdt
    have CB:Hid (∀(Z Z':World),X.grownBy Z none->(∀(j:Nat) (c:Array Value) (u:TypeId) (m:Nat×Nat),Z.heap[j]? = some (.cells c u m)->u≠145->u≠146->Z'.heap[j]? = some (.cells c u m))->Z'.cell? ⟨y.nb,0,none⟩=some (.int .i64 y.fr)/\Z'.cell? ⟨y.nb,1,none⟩=some (.int .i64 y.to)/\Z'.cell? ⟨w1.heap.size,0,none⟩=some (.pointer (some ⟨b,0,none⟩))/\Z'.cell? ⟨b,5,none⟩=some (.iface TD (.pointer (some ⟨nd,0,none⟩)))/\Z'.cell? ⟨w.heap.size,0,none⟩=some (.string s)):=bV fun Z Z' hZ hk=>by
     have u2:∀ {i:Nat} {c:Array Value} {u:TypeId} {m:Nat×Nat},X.heap[i]? = some (.cells c u m)->u≠145->u≠146->Z'.heap[i]? = some (.cells c u m):=fun h h1 h2=>hk _ _ _ _ (zbG hZ h) h1 h2
     obtain ⟨q0,q1,_,_,_,_⟩:=zaf (u2 hyX (by decide) (by decide))
     exact ⟨q0,q1,(zag (u2 lX (by decide) (by decide))).1,zcR (u2 bX (by decide) (by decide)),(zag (u2 tX (by decide) (by decide))).1⟩
    have CE:Hid (∀Z,X.grownBy Z none->Z.cell? ⟨y.nb,0,none⟩=some (.int .i64 y.fr)/\Z.cell? ⟨y.nb,1,none⟩=some (.int .i64 y.to)/\Z.cell? ⟨w1.heap.size,0,none⟩=some (.pointer (some ⟨b,0,none⟩))/\Z.cell? ⟨b,5,none⟩=some (.iface TD (.pointer (some ⟨nd,0,none⟩)))/\Z.cell? ⟨w.heap.size,0,none⟩=some (.string s)):=bV fun Z hZ=>uh CB Z Z hZ (fun _ _ _ _ h _ _=>h)
    have hic:(Tryz.prog.info? 145).map (fun i=>(i.zero,i.size,i.bytes))=some (some (.agg #[.int .i64 0,.int .i64 0,.string ⟨#[]⟩]),3,32):=by kernel_rfl
    obtain ⟨i0,hi0,hz0',hz1',hz3'⟩:=info_parts hic
    have HROW:=bV hrow
    have HBEL:=bV hbel
    have HV:=bV hv'
    have hpl:pre.length<300:=Nat.lt_of_lt_of_le hlt hL
    have cv1:=hv'.cell
    simp only [zsA,zsZ,zsS]
    clear hrow hbel hv' up upw hyX bX lX tX kpX huy hic
    gi_wp2_with fail
    refine zd1 lr (fun W=>W.cell? ⟨y.nb,0,none⟩=some (.int .i64 y.fr)/\W.cell? ⟨y.nb,1,none⟩=some (.int .i64 y.to)/\W.cell? ⟨w1.heap.size,0,none⟩=some (.pointer (some ⟨b,0,none⟩))/\W.cell? ⟨b,5,none⟩=some (.iface TD (.pointer (some ⟨nd,0,none⟩)))/\W.cell? ⟨w.heap.size,0,none⟩=some (.string s)) hmx (by kernel_rfl) (uh CE _ (zac (zab _))) ?_
    intro hSd
    refine tkH 1 (oi:=⟨some 63,.move (.tmp 12),83,"inline.go:24",#[],none⟩) (v:=.pointer (some ⟨y.nb,0,none⟩)) rfl (fun W ⟨hs1,hs2,hs3,hs4,hs5⟩=>by go_simp) hSd ?_
    simp only [Act.put,zsA,zsZ,zsS]
    refine tkH 2 (oi:=⟨some 64,.nilCheck (.tmp 63),0,"inline.go:24",#[⟨1,.data⟩],none⟩) (v:=.pointer (some ⟨y.nb,0,none⟩)) rfl (fun W ⟨hs1,hs2,hs3,hs4,hs5⟩=>by go_simp) hSd ?_
    simp only [Act.put,zsA,zsZ,zsS]
    refine tkH 3 (oi:=⟨some 65,.fieldAddr 87 (.tmp 64) 0,0,"inline.go:24",#[⟨2,.data⟩],none⟩) (v:=.pointer (some ⟨y.nb,0,none⟩)) rfl (fun W ⟨hs1,hs2,hs3,hs4,hs5⟩=>by go_simp) hSd ?_
    simp only [Act.put,zsA,zsZ,zsS]
    refine tkH 4 (oi:=⟨some 66,.load 85 (.tmp 65),85,"inline.go:24",#[⟨3,.data⟩],none⟩) (v:=.agg #[.int .i64 y.fr,.int .i64 y.to]) rfl (fun W ⟨hs1,hs2,hs3,hs4,hs5⟩=>by go_simp) hSd ?_
    simp only [Act.put,zsA,zsZ,zsS]
    refine tkH 5 (oi:=⟨some 67,.move (.tmp 12),83,"inline.go:24",#[],none⟩) (v:=.pointer (some ⟨y.nb,0,none⟩)) rfl (fun W ⟨hs1,hs2,hs3,hs4,hs5⟩=>by go_simp) hSd ?_
    simp only [Act.put,zsA,zsZ,zsS]
    refine tkH 6 (oi:=⟨some 68,.load 136 (.tmp 8),136,"inline.go:24",#[],none⟩) (v:=.pointer (some ⟨b,0,none⟩)) rfl (fun W ⟨hs1,hs2,hs3,hs4,hs5⟩=>by go_simp) hSd ?_
    simp only [Act.put,zsA,zsZ,zsS]
    refine tkH 7 (oi:=⟨some 69,.nilCheck (.tmp 68),0,"inline.go:24",#[⟨6,.data⟩],none⟩) (v:=.pointer (some ⟨b,0,none⟩)) rfl (fun W ⟨hs1,hs2,hs3,hs4,hs5⟩=>by go_simp) hSd ?_
    simp only [Act.put,zsA,zsZ,zsS]
    refine tkH 8 (oi:=⟨some 70,.fieldAddr 140 (.tmp 69) 3,0,"inline.go:24",#[⟨7,.data⟩],none⟩) (v:=.pointer (some ⟨b,5,none⟩)) rfl (fun W ⟨hs1,hs2,hs3,hs4,hs5⟩=>by go_simp) hSd ?_
    simp only [Act.put,zsA,zsZ,zsS]
    refine tkH 9 (oi:=⟨some 71,.load 68 (.tmp 70),68,"inline.go:24",#[⟨8,.data⟩],none⟩) (v:=.iface TD (.pointer (some ⟨nd,0,none⟩))) rfl (fun W ⟨hs1,hs2,hs3,hs4,hs5⟩=>by go_simp) hSd ?_
    simp only [Act.put,zsA,zsZ,zsS]
    refine tkH 10 (oi:=⟨some 72,.load 9 (.tmp 3),9,"inline.go:24",#[],none⟩) (v:=.string s) rfl (fun W ⟨hs1,hs2,hs3,hs4,hs5⟩=>by go_simp) hSd ?_
    simp only [Act.put,zsA,zsZ,zsS]
    refine wpAnyH_ready (rs:=[0,11]) (by kernel_rfl) (by simp) ?_
    refine AllReadyH.cons (o:=⟨some 62,.load 146 (.tmp 11),146,"inline.go:24",#[],none⟩) rfl (fun K hK => ?_) (AllReadyH.cons (o:=⟨some 73,.call ⟨.value (.func 63),#[.tmp 67,.tmp 71,.tmp 72],#[83,68,9]⟩,9,"inline.go:24",#[⟨5,.data⟩,⟨9,.data⟩,⟨10,.data⟩],none⟩) rfl (fun K hK => ?_) AllReadyH.nil)
    ·go_simp
     refine hK.out _ _ hSd (fun hSd => ?_)
     clear hK K
     refine wpAnyH_ready (rs:=[11]) (by kernel_rfl) (by simp) ?_
     refine AllReadyH.cons (o:=⟨some 73,.call ⟨.value (.func 63),#[.tmp 67,.tmp 71,.tmp 72],#[83,68,9]⟩,9,"inline.go:24",#[⟨5,.data⟩,⟨9,.data⟩,⟨10,.data⟩],none⟩) rfl (fun K hK => ?_) AllReadyH.nil
     go_simp
     refine (uh HIP _ (zac (zab _))).mono ?_
     rintro e1 X2 ⟨rfl,hg2⟩
     have G2:=bV (zaa (zac (zab X)) hg2)
     have v2:Boxed X2 (W5.heap.size+1) 146 (.slice pv (pre.length+1) ccv):=(G2.out.block _ (uh HV).lt (by simp)).trans (uh HV)
     have row2:X2.ownsRow W5.heap.size 145 3 (.slice pv (pre.length+1) ccv) (pre.length+1) (zcb (zfv fr bo.fr s.data.toList d (pre.map (·.1)))):=zdp (uh HROW) (znL _) (fun g c h=>zbG G2.out h)
     have V2:=bV v2
     have ROW2:=bV row2
     have hzv:=v2.lt
     have cv2:=v2.cell
     have cv3:=(zag ((Below.heap_alloc X2 (.cells #[.int .i64 y.fr,.int .i64 y.to,ug (Tw.Inl.zch s.data.toList d y.fr)] 145) _ hzv).trans v2)).1
     refine hK.out _ _ (uh CE _ G2.out) (fun hSd => ?_)
     clear hK K hg2 v2 row2
     refine tkH 12 (oi:=⟨some 74,.build 145 #[(0,.tmp 66),(1,.tmp 73)],145,"inline.go:24",#[⟨4,.data⟩,⟨11,.data⟩],none⟩) (v:=.agg #[.int .i64 y.fr,.int .i64 y.to,ug (Tw.Inl.zch s.data.toList d y.fr)]) rfl (fun W _=>by go_simp) hSd ?_
     simp only [Act.put,zsA,zsZ,zsS]
     refine wpAnyH_ready (rs:=[13]) (by kernel_rfl) (by simp) ?_
     refine AllReadyH.cons (o:=⟨some 75,.buildSlice 146 1 #[(0,.tmp 74)],146,"inline.go:24",#[⟨12,.data⟩],none⟩) rfl (fun K hK => ?_) AllReadyH.nil
     go_simp
     refine hK.out _ _ (uh CE _ (zae G2.out _)) (fun hSd => ?_)
     clear hK K
     refine wpAnyH_ready (rs:=[14]) (by kernel_rfl) (by simp) ?_
     refine AllReadyH.cons (o:=⟨some 76,.call ⟨.builtin .append,#[.tmp 62,.tmp 75],#[146,146]⟩,146,"inline.go:24",#[⟨0,.data⟩,⟨13,.data⟩,⟨11,.chain⟩],none⟩) rfl (fun K hK => ?_) AllReadyH.nil
     rw [if_pos (by rfl)]
     refine zev _ _ _ 146 rfl W5.heap.size 145 i0 (.agg #[.int .i64 0,.int .i64 0,.string ⟨#[]⟩]) 3 32 Tryz.underlying146 hi0 hz0' hz1' hz3' rfl (by decide) (.slice pv (pre.length+1) ccv) (pre.length+1) (zcb (zfv fr bo.fr s.data.toList d (pre.map (·.1)))) rfl (World.ownsRow.alloc (w:=X2) (uh ROW2) _) ⟨X2.heap.size,0,none⟩ 1 1 [.int .i64 y.fr,.int .i64 y.to,ug (Tw.Inl.zch s.data.toList d y.fr)] rfl rfl (zcl X2 _ _ _ _) (by intro u hu; simp at hu; rcases hu with rfl | rfl | rfl <;> rfl) (by unfold maxLen; omega) (by omega) (by have:=G2.out.size; have:=HBEL.out.size; simp; omega) ?_
     intro v' w5 hown' hgrow
     have hgrow':(X2.alloc (.cells #[.int .i64 y.fr,.int .i64 y.to,ug (Tw.Inl.zch s.data.toList d y.fr)] 145)).grownBy w5 (Value.slice pv (pre.length+1) ccv).ownBlock:=⟨hgrow.os,hgrow.tape,hgrow.output,hgrow.size,hgrow.block⟩
     obtain ⟨g6',cap6,rfl⟩:=ownsRow_succ hown'
     have hap:=Boxed.appended (uh V2) (by decide) (uh ROW2) (Nat.le_trans HBEL.out.size G2.out.size) (Nat.le_succ _) hown' hgrow'
     have hc1:=hap.1.cell
     have hf1:=hap.1.frozen
     have kk:=zel (v':=.slice (some ⟨g6',0,none⟩) (pre.length+1+1) cap6) (uh V2) (uh ROW2) hgrow' (by decide) (by decide)
     have CA:=uh CB X2 w5 G2.out (fun j c u m h1 h2 h3=>zf5 (uh ROW2) hgrow' h2 h1)
     have CZ:=uh CB X2 (w5.setCell ⟨W5.heap.size+1,0,none⟩ (.slice (some ⟨g6',0,none⟩) (pre.length+1+1) cap6)) G2.out (fun j c u m h1 h2 h3=>zc0 (uh V2) (uh ROW2) hgrow' h3 h2 h1)
     refine hK.out _ _ CA (fun hSd => ?_)
     clear hK K
     refine wpAnyH_ready (rs:=[15]) (by kernel_rfl) (by simp) ?_
     refine AllReadyH.cons (o:=⟨none,.store 146 (.tmp 11) (.tmp 76),0,"inline.go:24",#[⟨14,.data⟩,⟨14,.chain⟩,⟨0,.phase⟩,⟨1,.phase⟩,⟨2,.phase⟩,⟨3,.phase⟩,⟨4,.phase⟩,⟨5,.phase⟩,⟨6,.phase⟩,⟨7,.phase⟩,⟨8,.phase⟩,⟨9,.phase⟩,⟨10,.phase⟩,⟨11,.phase⟩,⟨12,.phase⟩,⟨13,.phase⟩,⟨14,.phase⟩],none⟩) rfl (fun K hK => ?_) AllReadyH.nil
     go_simp
     refine hK.out _ _ CZ (fun hSd => ?_)
     clear hK K
     refine wpAnyH_done (by kernel_rfl) ⟨rfl,?_⟩ _
     refine ⟨za7 (zax G2.out) (hap.2.2.2.1.from _),(Kp.of_grown G2.out).trans kk,⟨_,hap.2.1,by simp only [List.map_append,List.map_cons,List.map_nil,List.length_append,List.length_cons,List.length_nil,Nat.zero_add]; rw [zml]; exact hap.2.2.1,trivial⟩,(uh HBEL).trans (((zfd G2.out).mono HBEL.out.size).trans hap.2.2.2.2)⟩
    ·skip
     go_simp
     refine (uh HIP _ (zac (zab _))).mono ?_
     rintro e1 X2 ⟨rfl,hg2⟩
     have G2:=bV (zaa (zac (zab X)) hg2)
     have v2:Boxed X2 (W5.heap.size+1) 146 (.slice pv (pre.length+1) ccv):=(G2.out.block _ (uh HV).lt (by simp)).trans (uh HV)
     have row2:X2.ownsRow W5.heap.size 145 3 (.slice pv (pre.length+1) ccv) (pre.length+1) (zcb (zfv fr bo.fr s.data.toList d (pre.map (·.1)))):=zdp (uh HROW) (znL _) (fun g c h=>zbG G2.out h)
     have V2:=bV v2
     have ROW2:=bV row2
     have hzv:=v2.lt
     have cv2:=v2.cell
     have cv3:=(zag ((Below.heap_alloc X2 (.cells #[.int .i64 y.fr,.int .i64 y.to,ug (Tw.Inl.zch s.data.toList d y.fr)] 145) _ hzv).trans v2)).1
     refine hK.out _ _ (uh CE _ G2.out) (fun hSd => ?_)
     clear hK K hg2 v2 row2
     refine tkH 12 (oi:=⟨some 74,.build 145 #[(0,.tmp 66),(1,.tmp 73)],145,"inline.go:24",#[⟨4,.data⟩,⟨11,.data⟩],none⟩) (v:=.agg #[.int .i64 y.fr,.int .i64 y.to,ug (Tw.Inl.zch s.data.toList d y.fr)]) rfl (fun W _=>by go_simp) hSd ?_
     simp only [Act.put,zsA,zsZ,zsS]
     refine wpAnyH_ready (rs:=[0,13]) (by kernel_rfl) (by simp) ?_
     refine AllReadyH.cons (o:=⟨some 62,.load 146 (.tmp 11),146,"inline.go:24",#[],none⟩) rfl (fun K hK => ?_) (AllReadyH.cons (o:=⟨some 75,.buildSlice 146 1 #[(0,.tmp 74)],146,"inline.go:24",#[⟨12,.data⟩],none⟩) rfl (fun K hK => ?_) AllReadyH.nil)
     ·go_simp
      refine hK.out _ _ hSd (fun hSd => ?_)
      clear hK K
      refine wpAnyH_ready (rs:=[13]) (by kernel_rfl) (by simp) ?_
      refine AllReadyH.cons (o:=⟨some 75,.buildSlice 146 1 #[(0,.tmp 74)],146,"inline.go:24",#[⟨12,.data⟩],none⟩) rfl (fun K hK => ?_) AllReadyH.nil
      go_simp
      refine hK.out _ _ (uh CE _ (zae G2.out _)) (fun hSd => ?_)
      clear hK K
      refine wpAnyH_ready (rs:=[14]) (by kernel_rfl) (by simp) ?_
      refine AllReadyH.cons (o:=⟨some 76,.call ⟨.builtin .append,#[.tmp 62,.tmp 75],#[146,146]⟩,146,"inline.go:24",#[⟨0,.data⟩,⟨13,.data⟩,⟨11,.chain⟩],none⟩) rfl (fun K hK => ?_) AllReadyH.nil
      rw [if_pos (by rfl)]
      refine zev _ _ _ 146 rfl W5.heap.size 145 i0 (.agg #[.int .i64 0,.int .i64 0,.string ⟨#[]⟩]) 3 32 Tryz.underlying146 hi0 hz0' hz1' hz3' rfl (by decide) (.slice pv (pre.length+1) ccv) (pre.length+1) (zcb (zfv fr bo.fr s.data.toList d (pre.map (·.1)))) rfl (World.ownsRow.alloc (w:=X2) (uh ROW2) _) ⟨X2.heap.size,0,none⟩ 1 1 [.int .i64 y.fr,.int .i64 y.to,ug (Tw.Inl.zch s.data.toList d y.fr)] rfl rfl (zcl X2 _ _ _ _) (by intro u hu; simp at hu; rcases hu with rfl | rfl | rfl <;> rfl) (by unfold maxLen; omega) (by omega) (by have:=G2.out.size; have:=HBEL.out.size; simp; omega) ?_
      intro v' w5 hown' hgrow
      have hgrow':(X2.alloc (.cells #[.int .i64 y.fr,.int .i64 y.to,ug (Tw.Inl.zch s.data.toList d y.fr)] 145)).grownBy w5 (Value.slice pv (pre.length+1) ccv).ownBlock:=⟨hgrow.os,hgrow.tape,hgrow.output,hgrow.size,hgrow.block⟩
      obtain ⟨g6',cap6,rfl⟩:=ownsRow_succ hown'
      have hap:=Boxed.appended (uh V2) (by decide) (uh ROW2) (Nat.le_trans HBEL.out.size G2.out.size) (Nat.le_succ _) hown' hgrow'
      have hc1:=hap.1.cell
      have hf1:=hap.1.frozen
      have kk:=zel (v':=.slice (some ⟨g6',0,none⟩) (pre.length+1+1) cap6) (uh V2) (uh ROW2) hgrow' (by decide) (by decide)
      have CA:=uh CB X2 w5 G2.out (fun j c u m h1 h2 h3=>zf5 (uh ROW2) hgrow' h2 h1)
      have CZ:=uh CB X2 (w5.setCell ⟨W5.heap.size+1,0,none⟩ (.slice (some ⟨g6',0,none⟩) (pre.length+1+1) cap6)) G2.out (fun j c u m h1 h2 h3=>zc0 (uh V2) (uh ROW2) hgrow' h3 h2 h1)
      refine hK.out _ _ CA (fun hSd => ?_)
      clear hK K
      refine wpAnyH_ready (rs:=[15]) (by kernel_rfl) (by simp) ?_
      refine AllReadyH.cons (o:=⟨none,.store 146 (.tmp 11) (.tmp 76),0,"inline.go:24",#[⟨14,.data⟩,⟨14,.chain⟩,⟨0,.phase⟩,⟨1,.phase⟩,⟨2,.phase⟩,⟨3,.phase⟩,⟨4,.phase⟩,⟨5,.phase⟩,⟨6,.phase⟩,⟨7,.phase⟩,⟨8,.phase⟩,⟨9,.phase⟩,⟨10,.phase⟩,⟨11,.phase⟩,⟨12,.phase⟩,⟨13,.phase⟩,⟨14,.phase⟩],none⟩) rfl (fun K hK => ?_) AllReadyH.nil
      go_simp
      refine hK.out _ _ CZ (fun hSd => ?_)
      clear hK K
      refine wpAnyH_done (by kernel_rfl) ⟨rfl,?_⟩ _
      refine ⟨za7 (zax G2.out) (hap.2.2.2.1.from _),(Kp.of_grown G2.out).trans kk,⟨_,hap.2.1,by simp only [List.map_append,List.map_cons,List.map_nil,List.length_append,List.length_cons,List.length_nil,Nat.zero_add]; rw [zml]; exact hap.2.2.1,trivial⟩,(uh HBEL).trans (((zfd G2.out).mono HBEL.out.size).trans hap.2.2.2.2)⟩
     ·go_simp
      refine hK.out _ _ (uh CE _ (zae G2.out _)) (fun hSd => ?_)
      clear hK K
      refine wpAnyH_ready (rs:=[0]) (by kernel_rfl) (by simp) ?_
      refine AllReadyH.cons (o:=⟨some 62,.load 146 (.tmp 11),146,"inline.go:24",#[],none⟩) rfl (fun K hK => ?_) AllReadyH.nil
      go_simp
      refine hK.out _ _ hSd (fun hSd => ?_)
      clear hK K
      refine wpAnyH_ready (rs:=[14]) (by kernel_rfl) (by simp) ?_
      refine AllReadyH.cons (o:=⟨some 76,.call ⟨.builtin .append,#[.tmp 62,.tmp 75],#[146,146]⟩,146,"inline.go:24",#[⟨0,.data⟩,⟨13,.data⟩,⟨11,.chain⟩],none⟩) rfl (fun K hK => ?_) AllReadyH.nil
      rw [if_pos (by rfl)]
      refine zev _ _ _ 146 rfl W5.heap.size 145 i0 (.agg #[.int .i64 0,.int .i64 0,.string ⟨#[]⟩]) 3 32 Tryz.underlying146 hi0 hz0' hz1' hz3' rfl (by decide) (.slice pv (pre.length+1) ccv) (pre.length+1) (zcb (zfv fr bo.fr s.data.toList d (pre.map (·.1)))) rfl (World.ownsRow.alloc (w:=X2) (uh ROW2) _) ⟨X2.heap.size,0,none⟩ 1 1 [.int .i64 y.fr,.int .i64 y.to,ug (Tw.Inl.zch s.data.toList d y.fr)] rfl rfl (zcl X2 _ _ _ _) (by intro u hu; simp at hu; rcases hu with rfl | rfl | rfl <;> rfl) (by unfold maxLen; omega) (by omega) (by have:=G2.out.size; have:=HBEL.out.size; simp; omega) ?_
      intro v' w5 hown' hgrow
      have hgrow':(X2.alloc (.cells #[.int .i64 y.fr,.int .i64 y.to,ug (Tw.Inl.zch s.data.toList d y.fr)] 145)).grownBy w5 (Value.slice pv (pre.length+1) ccv).ownBlock:=⟨hgrow.os,hgrow.tape,hgrow.output,hgrow.size,hgrow.block⟩
      obtain ⟨g6',cap6,rfl⟩:=ownsRow_succ hown'
      have hap:=Boxed.appended (uh V2) (by decide) (uh ROW2) (Nat.le_trans HBEL.out.size G2.out.size) (Nat.le_succ _) hown' hgrow'
      have hc1:=hap.1.cell
      have hf1:=hap.1.frozen
      have kk:=zel (v':=.slice (some ⟨g6',0,none⟩) (pre.length+1+1) cap6) (uh V2) (uh ROW2) hgrow' (by decide) (by decide)
      have CA:=uh CB X2 w5 G2.out (fun j c u m h1 h2 h3=>zf5 (uh ROW2) hgrow' h2 h1)
      have CZ:=uh CB X2 (w5.setCell ⟨W5.heap.size+1,0,none⟩ (.slice (some ⟨g6',0,none⟩) (pre.length+1+1) cap6)) G2.out (fun j c u m h1 h2 h3=>zc0 (uh V2) (uh ROW2) hgrow' h3 h2 h1)
      refine hK.out _ _ CA (fun hSd => ?_)
      clear hK K
      refine wpAnyH_ready (rs:=[15]) (by kernel_rfl) (by simp) ?_
      refine AllReadyH.cons (o:=⟨none,.store 146 (.tmp 11) (.tmp 76),0,"inline.go:24",#[⟨14,.data⟩,⟨14,.chain⟩,⟨0,.phase⟩,⟨1,.phase⟩,⟨2,.phase⟩,⟨3,.phase⟩,⟨4,.phase⟩,⟨5,.phase⟩,⟨6,.phase⟩,⟨7,.phase⟩,⟨8,.phase⟩,⟨9,.phase⟩,⟨10,.phase⟩,⟨11,.phase⟩,⟨12,.phase⟩,⟨13,.phase⟩,⟨14,.phase⟩],none⟩) rfl (fun K hK => ?_) AllReadyH.nil
      go_simp
      refine hK.out _ _ CZ (fun hSd => ?_)
      clear hK K
      refine wpAnyH_done (by kernel_rfl) ⟨rfl,?_⟩ _
      refine ⟨za7 (zax G2.out) (hap.2.2.2.1.from _),(Kp.of_grown G2.out).trans kk,⟨_,hap.2.1,by simp only [List.map_append,List.map_cons,List.map_nil,List.length_append,List.length_cons,List.length_nil,Nat.zero_add]; rw [zml]; exact hap.2.2.1,trivial⟩,(uh HBEL).trans (((zfd G2.out).mono HBEL.out.size).trans hap.2.2.2.2)⟩
   case done =>
    rintro D xs X hD hxs ⟨⟨v,hv,hrow,_⟩,hbel⟩ hK
    have hlx:(zbq ⟨b,3,none⟩ LU).length=xs.length:=by rw [<-hxs]; simp
    rw [hxs] at hrow
    have hrl:=zns fr bo.fr s.data.toList d (zbq ⟨b,3,none⟩ LU)
    rw [hlx] at hrl
    rw [<-hrl] at hrow
    obtain ⟨g8,cap8,rfl,_,hg8,hch⟩:=zy6 (by simp [zfv]) hrow
    have cv:=hv.cell
    have hul:xs.length<=300:=by
     rw [<-hlx]
     exact Nat.le_trans (List.length_filter_le _ _) hL
    have hsz:s.data.toList.length=s.size:=Array.length_toList
    have HCH:=bV (zpb hB (cap:=cap8) hs hch hg8 hok (by rw [hrl]; omega) (by
     intro c hc
     simp only [zfv,zmC,List.mem_map] at hc
     rcases hc with rfl | ⟨_,_,rfl⟩
     ·simp
     ·exact Nat.le_trans (ybw _ _ _) (by omega)))
    rw [hrl] at HCH
    have HBEL:=bV hbel
    have HK:=bV hK
    have tX:=(zag ((hbel.block _ (zgE.1 H5.out.2).1).trans H5.out.2)).1
    clear hrow hv hbel hch hxs hok
    gi_wp2_with fail
    refine ⟨trivial,?_⟩
    refine (callsIn_wide.2 (uh HCH)).mono ?_
    rintro e1 X2 ⟨rfl,hgX⟩
    have hK2:X2.heap[D]? = some (.deferred (some [])):=zbG hgX (uh HK)
    gi_wp2_with fail
    refine ⟨by simp,.inl ⟨_,_,rfl,run_takeDeferred hK2,?_⟩⟩
    obtain ⟨out,hout⟩:∃out:ByteArray,(⟨(Tw.chgR 0 s.data.toList (zfv fr bo.fr s.data.toList d (zbq ⟨b,3,none⟩ LU))).toArray⟩:ByteArray)=out:=⟨_,rfl⟩
    rw [hout]
    refine ⟨.tuple #[.string out,.int .i64 0],?_,rfl,?_⟩
    ·simp [results,Tryz.results38,go_sem]
    ·have hput:=grownBy_putObj' X2 D (.deferred none)
     have hb:=HBEL.out
     have hz:=g05.size
     refine ⟨hput.os.trans (hgX.os.trans (hb.os.trans g05.os)),hput.tape.trans (hgX.tape.trans (hb.tape.trans g05.tape)),hput.output.trans (hgX.output.trans (hb.output.trans g05.output)),by have:=hput.size; have:=hgX.size; have:=hb.size; omega,fun i hi _ => ?_⟩
     have hi2:i<W5.heap.size:=by omega
     have hiX:i<X.heap.size:=by have:=hb.size; omega
     exact (hput.block i (by have:=hgX.size; omega) (fun e=>by cases e; omega)).trans ((hgX.block i hiX (by simp)).trans ((hb.block i hi2).trans (g05.block i hi (by simp))))
   case stop=>intro D c pre X hD hpre h; exact h.elim
  | _=>exact h.elim
end Go.Proofs.YtckhafpejefbbaaGreatDoor 
