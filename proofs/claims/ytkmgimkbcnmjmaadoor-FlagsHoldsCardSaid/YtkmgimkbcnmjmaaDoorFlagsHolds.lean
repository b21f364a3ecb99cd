/- FlagsHolds (watchword): for every input the call returns true and the input reads as it did; where the tables that it reads hold what the program's text lays there. -/
import Derived.Test.YtkmgimkbcnmjmaaDoorSymD
import Derived.Test.YtkmgimkbcnmjmaaDoorChecked
import Derived.Test.YtkmgimkbcnmjmaaDoorRows
import Derived.Test.YtkmgimkbcnmjmaaDoorTie
import Derived.Test.YtkmgimkbcnmjmaaDoorCards
import Derived.WalkKit
import Derived.ProofKit
import Derived.OpenShut
import Derived.ShutString
import Derived.HandedShaped
import Derived.LaidMore
import Derived.Lay
import Derived.Stop.Joined
import Derived.SevenTiedAt
import Derived.Test.YtkmgimkbcnmjmaaDoorKnown2
import Derived.Test.YtkmgimkbcnmjmaaDoorFlagsHoldsR0
import Derived.Test.YtkmgimkbcnmjmaaDoorFlagsHoldsR1
import Derived.Test.YtkmgimkbcnmjmaaDoorFlagsHoldsR2
import Derived.Test.YtkmgimkbcnmjmaaDoorFlagsHoldsR3
import Derived.Test.YtkmgimkbcnmjmaaDoorFlagsHoldsR4
import Derived.Test.YtkmgimkbcnmjmaaDoorFlagsHoldsR5
import Derived.Test.YtkmgimkbcnmjmaaDoorFlagsHoldsR6
import Derived.Test.YtkmgimkbcnmjmaaDoorFlagsHoldsR7
import Derived.Test.YtkmgimkbcnmjmaaDoorFlagsHoldsR8
import Derived.Test.YtkmgimkbcnmjmaaDoorFlagsHoldsR9
import Derived.Test.YtkmgimkbcnmjmaaDoorFlagsHoldsR10
import Derived.Test.YtkmgimkbcnmjmaaDoorFlagsHoldsR11
import Derived.Test.YtkmgimkbcnmjmaaDoorFlagsHoldsR12
import Derived.Test.YtkmgimkbcnmjmaaDoorFlagsHoldsR13
import Derived.Test.YtkmgimkbcnmjmaaDoorFlagsHoldsR14
import Derived.Test.YtkmgimkbcnmjmaaDoorFlagsHoldsR15
import Derived.Test.YtkmgimkbcnmjmaaDoorFlagsHoldsR16
import Derived.Test.YtkmgimkbcnmjmaaDoorFlagsHoldsR17
import Derived.Test.YtkmgimkbcnmjmaaDoorFlagsHoldsR18
import Derived.Test.YtkmgimkbcnmjmaaDoorFlagsHoldsR19
import Derived.Test.YtkmgimkbcnmjmaaDoorFlagsHoldsR20
import Derived.Test.YtkmgimkbcnmjmaaDoorFlagsHoldsR21
import Derived.Test.YtkmgimkbcnmjmaaDoorFlagsHoldsR22
import Derived.Test.YtkmgimkbcnmjmaaDoorFlagsHoldsR23
import Derived.Test.YtkmgimkbcnmjmaaDoorFlagsHoldsR24
import Derived.Test.YtkmgimkbcnmjmaaDoorFlagsHoldsR25
import Derived.Test.YtkmgimkbcnmjmaaDoorFlagsHoldsR26
import Derived.Test.YtkmgimkbcnmjmaaDoorFlagsHoldsR27
import Derived.Test.YtkmgimkbcnmjmaaDoorFlagsHoldsR28
import Derived.Test.YtkmgimkbcnmjmaaDoorFlagsHoldsR29
import Derived.Test.YtkmgimkbcnmjmaaDoorFlagsHoldsR30
import Derived.Test.YtkmgimkbcnmjmaaDoorFlagsHoldsR31
import Derived.Test.YtkmgimkbcnmjmaaDoorFlagsHoldsR32
import Derived.Test.YtkmgimkbcnmjmaaDoorFlagsHoldsR33
import Derived.Test.YtkmgimkbcnmjmaaDoorFlagsHoldsR34
import Derived.Test.YtkmgimkbcnmjmaaDoorFlagsHoldsR35
import Derived.Test.YtkmgimkbcnmjmaaDoorFlagsHoldsR36
import Derived.Test.YtkmgimkbcnmjmaaDoorFlagsHoldsR37
import Derived.Test.YtkmgimkbcnmjmaaDoorFlagsHoldsR38
import Derived.Test.YtkmgimkbcnmjmaaDoorFlagsHoldsR39
import Derived.Test.YtkmgimkbcnmjmaaDoorFlagsHoldsR40
import Derived.Test.YtkmgimkbcnmjmaaDoorFlagsHoldsR41
namespace Go.Proofs.YtkmgimkbcnmjmaaDoor.flagsHolds
open Go.ChangeShapes Go.WideShapes Go.ChangeAt Go.RowKit
set_option linter.unusedVariables false

theorem own : ownKnob Tryd.prog.godebug = none := by kernel_rfl
theorem mixed : Tryd.prog.follows .mixedOrders = true := by kernel_rfl
theorem laidOut : laidOutB Tryd.prog = true := by kernel_rfl
theorem args : Sim.argsA Tryd.prog Tryd.f9.params.toList = some shp := by kernel_rfl
theorem all1 : Sim.AllR rn k1 s1 := run1
theorem all24 : Sim.AllR rn k24 s24 := run24
theorem all45 : Sim.AllR rn k45 s45 := run45
theorem all44 : Sim.AllR rn k44 s44 := by
  have ha := all45
  rw [← up44] at ha
  exact ⟨nn44, ha⟩
theorem all43 : Sim.AllR rn k43 s43 := by
  have ha := all44
  rw [← up43] at ha
  exact ⟨nn43, ha⟩
theorem all42 : Sim.AllR rn k42 s42 := by
  have ha := all43
  rw [← up42] at ha
  exact ⟨nn42, ha⟩
theorem all41 : Sim.AllR rn k41 s41 := by
  have ha := all42
  rw [← up41] at ha
  exact ⟨nn41, ha⟩
theorem all40 : Sim.AllR rn k40 s40 := by
  have ha := all41
  rw [← up40] at ha
  exact ⟨nn40, ha⟩
theorem all39 : Sim.AllR rn k39 s39 := by
  have ha := all40
  rw [← up39] at ha
  exact ⟨nn39, ha⟩
theorem all38 : Sim.AllR rn k38 s38 := by
  have ha := all39
  rw [← up38] at ha
  exact ⟨nn38, ha⟩
theorem all37 : Sim.AllR rn k37 s37 := by
  have ha := all38
  rw [← up37] at ha
  exact ⟨nn37, ha⟩
theorem all36 : Sim.AllR rn k36 s36 := by
  have ha := all37
  rw [← up36] at ha
  exact ⟨nn36, ha⟩
theorem all35 : Sim.AllR rn k35 s35 := by
  have ha := all36
  rw [← up35] at ha
  exact ⟨nn35, ha⟩
theorem all34 : Sim.AllR rn k34 s34 := by
  have ha := all35
  rw [← up34] at ha
  exact ⟨nn34, ha⟩
theorem all33 : Sim.AllR rn k33 s33 := by
  have ha := all34
  rw [← up33] at ha
  exact ⟨nn33, ha⟩
theorem all32 : Sim.AllR rn k32 s32 := by
  have ha := all33
  rw [← up32] at ha
  exact ⟨nn32, ha⟩
theorem all31 : Sim.AllR rn k31 s31 := by
  have ha := all32
  rw [← up31] at ha
  exact ⟨nn31, ha⟩
theorem all30 : Sim.AllR rn k30 s30 := by
  have ha := all31
  rw [← up30] at ha
  exact ⟨nn30, ha⟩
theorem all29 : Sim.AllR rn k29 s29 := by
  have ha := all30
  rw [← up29] at ha
  exact ⟨nn29, ha⟩
theorem all28 : Sim.AllR rn k28 s28 := by
  have ha := all29
  rw [← up28] at ha
  exact ⟨nn28, ha⟩
theorem all27 : Sim.AllR rn k27 s27 := by
  have ha := all28
  rw [← up27] at ha
  exact ⟨nn27, ha⟩
theorem all26 : Sim.AllR rn k26 s26 := by
  have ha := all27
  rw [← up26] at ha
  exact ⟨nn26, ha⟩
theorem all25 : Sim.AllR rn k25 s25 := by
  have ha := all26
  rw [← up25] at ha
  exact ⟨nn25, ha⟩
theorem all23 : Sim.AllR rn k23 s23 := by
  have ha := all24
  have hb := all25
  rw [← up23] at ha
  rw [← un23] at hb
  exact ⟨ha, hb⟩
theorem all68 : Sim.AllR rn k68 s68 := run68
theorem all70 : Sim.AllR rn k70 s70 := run70
theorem all76 : Sim.AllR rn k76 s76 := run76
theorem all77 : Sim.AllR rn k77 s77 := run77
theorem all75 : Sim.AllR rn k75 s75 := by
  have ha := all76
  have hb := all77
  rw [← up75] at ha
  rw [← un75] at hb
  exact ⟨ha, hb⟩
theorem all79 : Sim.AllR rn k79 s79 := run79
theorem all80 : Sim.AllR rn k80 s80 := run80
theorem all78 : Sim.AllR rn k78 s78 := by
  have ha := all79
  have hb := all80
  rw [← up78] at ha
  rw [← un78] at hb
  exact ⟨ha, hb⟩
theorem all74 : Sim.AllR rn k74 s74 := by
  have ha := all75
  have hb := all78
  rw [← up74] at ha
  rw [← un74] at hb
  exact ⟨ha, hb⟩
theorem all83 : Sim.AllR rn k83 s83 := run83
theorem all84 : Sim.AllR rn k84 s84 := run84
theorem all82 : Sim.AllR rn k82 s82 := by
  have ha := all83
  have hb := all84
  rw [← up82] at ha
  rw [← un82] at hb
  exact ⟨ha, hb⟩
theorem all86 : Sim.AllR rn k86 s86 := run86
theorem all87 : Sim.AllR rn k87 s87 := run87
theorem all85 : Sim.AllR rn k85 s85 := by
  have ha := all86
  have hb := all87
  rw [← up85] at ha
  rw [← un85] at hb
  exact ⟨ha, hb⟩
theorem all81 : Sim.AllR rn k81 s81 := by
  have ha := all82
  have hb := all85
  rw [← up81] at ha
  rw [← un81] at hb
  exact ⟨ha, hb⟩
theorem all73 : Sim.AllR rn k73 s73 := by
  have ha := all74
  have hb := all81
  rw [← up73] at ha
  rw [← un73] at hb
  exact ⟨ha, hb⟩
theorem all91 : Sim.AllR rn k91 s91 := run91
theorem all92 : Sim.AllR rn k92 s92 := run92
theorem all90 : Sim.AllR rn k90 s90 := by
  have ha := all91
  have hb := all92
  rw [← up90] at ha
  rw [← un90] at hb
  exact ⟨ha, hb⟩
theorem all94 : Sim.AllR rn k94 s94 := run94
theorem all95 : Sim.AllR rn k95 s95 := run95
theorem all93 : Sim.AllR rn k93 s93 := by
  have ha := all94
  have hb := all95
  rw [← up93] at ha
  rw [← un93] at hb
  exact ⟨ha, hb⟩
theorem all89 : Sim.AllR rn k89 s89 := by
  have ha := all90
  have hb := all93
  rw [← up89] at ha
  rw [← un89] at hb
  exact ⟨ha, hb⟩
theorem all98 : Sim.AllR rn k98 s98 := run98
theorem all99 : Sim.AllR rn k99 s99 := run99
theorem all97 : Sim.AllR rn k97 s97 := by
  have ha := all98
  have hb := all99
  rw [← up97] at ha
  rw [← un97] at hb
  exact ⟨ha, hb⟩
theorem all101 : Sim.AllR rn k101 s101 := run101
theorem all102 : Sim.AllR rn k102 s102 := run102
theorem all100 : Sim.AllR rn k100 s100 := by
  have ha := all101
  have hb := all102
  rw [← up100] at ha
  rw [← un100] at hb
  exact ⟨ha, hb⟩
theorem all96 : Sim.AllR rn k96 s96 := by
  have ha := all97
  have hb := all100
  rw [← up96] at ha
  rw [← un96] at hb
  exact ⟨ha, hb⟩
theorem all88 : Sim.AllR rn k88 s88 := by
  have ha := all89
  have hb := all96
  rw [← up88] at ha
  rw [← un88] at hb
  exact ⟨ha, hb⟩
theorem all72 : Sim.AllR rn k72 s72 := by
  have ha := all73
  have hb := all88
  rw [← up72] at ha
  rw [← un72] at hb
  exact ⟨ha, hb⟩
theorem all108 : Sim.AllR rn k108 s108 := run108
theorem all109 : Sim.AllR rn k109 s109 := run109
theorem all107 : Sim.AllR rn k107 s107 := by
  have ha := all108
  have hb := all109
  rw [← up107] at ha
  rw [← un107] at hb
  exact ⟨ha, hb⟩
theorem all111 : Sim.AllR rn k111 s111 := run111
theorem all112 : Sim.AllR rn k112 s112 := run112
theorem all110 : Sim.AllR rn k110 s110 := by
  have ha := all111
  have hb := all112
  rw [← up110] at ha
  rw [← un110] at hb
  exact ⟨ha, hb⟩
theorem all106 : Sim.AllR rn k106 s106 := by
  have ha := all107
  have hb := all110
  rw [← up106] at ha
  rw [← un106] at hb
  exact ⟨ha, hb⟩
theorem all115 : Sim.AllR rn k115 s115 := run115
theorem all116 : Sim.AllR rn k116 s116 := run116
theorem all114 : Sim.AllR rn k114 s114 := by
  have ha := all115
  have hb := all116
  rw [← up114] at ha
  rw [← un114] at hb
  exact ⟨ha, hb⟩
theorem all118 : Sim.AllR rn k118 s118 := run118
theorem all119 : Sim.AllR rn k119 s119 := run119
theorem all117 : Sim.AllR rn k117 s117 := by
  have ha := all118
  have hb := all119
  rw [← up117] at ha
  rw [← un117] at hb
  exact ⟨ha, hb⟩
theorem all113 : Sim.AllR rn k113 s113 := by
  have ha := all114
  have hb := all117
  rw [← up113] at ha
  rw [← un113] at hb
  exact ⟨ha, hb⟩
theorem all105 : Sim.AllR rn k105 s105 := by
  have ha := all106
  have hb := all113
  rw [← up105] at ha
  rw [← un105] at hb
  exact ⟨ha, hb⟩
theorem all123 : Sim.AllR rn k123 s123 := run123
theorem all124 : Sim.AllR rn k124 s124 := run124
theorem all122 : Sim.AllR rn k122 s122 := by
  have ha := all123
  have hb := all124
  rw [← up122] at ha
  rw [← un122] at hb
  exact ⟨ha, hb⟩
theorem all126 : Sim.AllR rn k126 s126 := run126
theorem all127 : Sim.AllR rn k127 s127 := run127
theorem all125 : Sim.AllR rn k125 s125 := by
  have ha := all126
  have hb := all127
  rw [← up125] at ha
  rw [← un125] at hb
  exact ⟨ha, hb⟩
theorem all121 : Sim.AllR rn k121 s121 := by
  have ha := all122
  have hb := all125
  rw [← up121] at ha
  rw [← un121] at hb
  exact ⟨ha, hb⟩
theorem all130 : Sim.AllR rn k130 s130 := run130
theorem all131 : Sim.AllR rn k131 s131 := run131
theorem all129 : Sim.AllR rn k129 s129 := by
  have ha := all130
  have hb := all131
  rw [← up129] at ha
  rw [← un129] at hb
  exact ⟨ha, hb⟩
theorem all133 : Sim.AllR rn k133 s133 := run133
theorem all134 : Sim.AllR rn k134 s134 := run134
theorem all132 : Sim.AllR rn k132 s132 := by
  have ha := all133
  have hb := all134
  rw [← up132] at ha
  rw [← un132] at hb
  exact ⟨ha, hb⟩
theorem all128 : Sim.AllR rn k128 s128 := by
  have ha := all129
  have hb := all132
  rw [← up128] at ha
  rw [← un128] at hb
  exact ⟨ha, hb⟩
theorem all120 : Sim.AllR rn k120 s120 := by
  have ha := all121
  have hb := all128
  rw [← up120] at ha
  rw [← un120] at hb
  exact ⟨ha, hb⟩
theorem all104 : Sim.AllR rn k104 s104 := by
  have ha := all105
  have hb := all120
  rw [← up104] at ha
  rw [← un104] at hb
  exact ⟨ha, hb⟩
theorem all140 : Sim.AllR rn k140 s140 := run140
theorem all141 : Sim.AllR rn k141 s141 := run141
theorem all139 : Sim.AllR rn k139 s139 := by
  have ha := all140
  have hb := all141
  rw [← up139] at ha
  rw [← un139] at hb
  exact ⟨ha, hb⟩
theorem all143 : Sim.AllR rn k143 s143 := run143
theorem all144 : Sim.AllR rn k144 s144 := run144
theorem all142 : Sim.AllR rn k142 s142 := by
  have ha := all143
  have hb := all144
  rw [← up142] at ha
  rw [← un142] at hb
  exact ⟨ha, hb⟩
theorem all138 : Sim.AllR rn k138 s138 := by
  have ha := all139
  have hb := all142
  rw [← up138] at ha
  rw [← un138] at hb
  exact ⟨ha, hb⟩
theorem all147 : Sim.AllR rn k147 s147 := run147
theorem all148 : Sim.AllR rn k148 s148 := run148
theorem all146 : Sim.AllR rn k146 s146 := by
  have ha := all147
  have hb := all148
  rw [← up146] at ha
  rw [← un146] at hb
  exact ⟨ha, hb⟩
theorem all150 : Sim.AllR rn k150 s150 := run150
theorem all151 : Sim.AllR rn k151 s151 := run151
theorem all149 : Sim.AllR rn k149 s149 := by
  have ha := all150
  have hb := all151
  rw [← up149] at ha
  rw [← un149] at hb
  exact ⟨ha, hb⟩
theorem all145 : Sim.AllR rn k145 s145 := by
  have ha := all146
  have hb := all149
  rw [← up145] at ha
  rw [← un145] at hb
  exact ⟨ha, hb⟩
theorem all137 : Sim.AllR rn k137 s137 := by
  have ha := all138
  have hb := all145
  rw [← up137] at ha
  rw [← un137] at hb
  exact ⟨ha, hb⟩
theorem all155 : Sim.AllR rn k155 s155 := run155
theorem all156 : Sim.AllR rn k156 s156 := run156
theorem all154 : Sim.AllR rn k154 s154 := by
  have ha := all155
  have hb := all156
  rw [← up154] at ha
  rw [← un154] at hb
  exact ⟨ha, hb⟩
theorem all158 : Sim.AllR rn k158 s158 := run158
theorem all159 : Sim.AllR rn k159 s159 := run159
theorem all157 : Sim.AllR rn k157 s157 := by
  have ha := all158
  have hb := all159
  rw [← up157] at ha
  rw [← un157] at hb
  exact ⟨ha, hb⟩
theorem all153 : Sim.AllR rn k153 s153 := by
  have ha := all154
  have hb := all157
  rw [← up153] at ha
  rw [← un153] at hb
  exact ⟨ha, hb⟩
theorem all162 : Sim.AllR rn k162 s162 := run162
theorem all163 : Sim.AllR rn k163 s163 := run163
theorem all161 : Sim.AllR rn k161 s161 := by
  have ha := all162
  have hb := all163
  rw [← up161] at ha
  rw [← un161] at hb
  exact ⟨ha, hb⟩
theorem all165 : Sim.AllR rn k165 s165 := run165
theorem all166 : Sim.AllR rn k166 s166 := run166
theorem all164 : Sim.AllR rn k164 s164 := by
  have ha := all165
  have hb := all166
  rw [← up164] at ha
  rw [← un164] at hb
  exact ⟨ha, hb⟩
theorem all160 : Sim.AllR rn k160 s160 := by
  have ha := all161
  have hb := all164
  rw [← up160] at ha
  rw [← un160] at hb
  exact ⟨ha, hb⟩
theorem all152 : Sim.AllR rn k152 s152 := by
  have ha := all153
  have hb := all160
  rw [← up152] at ha
  rw [← un152] at hb
  exact ⟨ha, hb⟩
theorem all136 : Sim.AllR rn k136 s136 := by
  have ha := all137
  have hb := all152
  rw [← up136] at ha
  rw [← un136] at hb
  exact ⟨ha, hb⟩
theorem all172 : Sim.AllR rn k172 s172 := run172
theorem all173 : Sim.AllR rn k173 s173 := run173
theorem all171 : Sim.AllR rn k171 s171 := by
  have ha := all172
  have hb := all173
  rw [← up171] at ha
  rw [← un171] at hb
  exact ⟨ha, hb⟩
theorem all175 : Sim.AllR rn k175 s175 := run175
theorem all176 : Sim.AllR rn k176 s176 := run176
theorem all174 : Sim.AllR rn k174 s174 := by
  have ha := all175
  have hb := all176
  rw [← up174] at ha
  rw [← un174] at hb
  exact ⟨ha, hb⟩
theorem all170 : Sim.AllR rn k170 s170 := by
  have ha := all171
  have hb := all174
  rw [← up170] at ha
  rw [← un170] at hb
  exact ⟨ha, hb⟩
theorem all179 : Sim.AllR rn k179 s179 := run179
theorem all180 : Sim.AllR rn k180 s180 := run180
theorem all178 : Sim.AllR rn k178 s178 := by
  have ha := all179
  have hb := all180
  rw [← up178] at ha
  rw [← un178] at hb
  exact ⟨ha, hb⟩
theorem all182 : Sim.AllR rn k182 s182 := run182
theorem all183 : Sim.AllR rn k183 s183 := run183
theorem all181 : Sim.AllR rn k181 s181 := by
  have ha := all182
  have hb := all183
  rw [← up181] at ha
  rw [← un181] at hb
  exact ⟨ha, hb⟩
theorem all177 : Sim.AllR rn k177 s177 := by
  have ha := all178
  have hb := all181
  rw [← up177] at ha
  rw [← un177] at hb
  exact ⟨ha, hb⟩
theorem all169 : Sim.AllR rn k169 s169 := by
  have ha := all170
  have hb := all177
  rw [← up169] at ha
  rw [← un169] at hb
  exact ⟨ha, hb⟩
theorem all187 : Sim.AllR rn k187 s187 := run187
theorem all188 : Sim.AllR rn k188 s188 := run188
theorem all186 : Sim.AllR rn k186 s186 := by
  have ha := all187
  have hb := all188
  rw [← up186] at ha
  rw [← un186] at hb
  exact ⟨ha, hb⟩
theorem all190 : Sim.AllR rn k190 s190 := run190
theorem all191 : Sim.AllR rn k191 s191 := run191
theorem all189 : Sim.AllR rn k189 s189 := by
  have ha := all190
  have hb := all191
  rw [← up189] at ha
  rw [← un189] at hb
  exact ⟨ha, hb⟩
theorem all185 : Sim.AllR rn k185 s185 := by
  have ha := all186
  have hb := all189
  rw [← up185] at ha
  rw [← un185] at hb
  exact ⟨ha, hb⟩
theorem all194 : Sim.AllR rn k194 s194 := run194
theorem all195 : Sim.AllR rn k195 s195 := run195
theorem all193 : Sim.AllR rn k193 s193 := by
  have ha := all194
  have hb := all195
  rw [← up193] at ha
  rw [← un193] at hb
  exact ⟨ha, hb⟩
theorem all197 : Sim.AllR rn k197 s197 := run197
theorem all198 : Sim.AllR rn k198 s198 := run198
theorem all196 : Sim.AllR rn k196 s196 := by
  have ha := all197
  have hb := all198
  rw [← up196] at ha
  rw [← un196] at hb
  exact ⟨ha, hb⟩
theorem all192 : Sim.AllR rn k192 s192 := by
  have ha := all193
  have hb := all196
  rw [← up192] at ha
  rw [← un192] at hb
  exact ⟨ha, hb⟩
theorem all184 : Sim.AllR rn k184 s184 := by
  have ha := all185
  have hb := all192
  rw [← up184] at ha
  rw [← un184] at hb
  exact ⟨ha, hb⟩
theorem all168 : Sim.AllR rn k168 s168 := by
  have ha := all169
  have hb := all184
  rw [← up168] at ha
  rw [← un168] at hb
  exact ⟨ha, hb⟩
theorem all203 : Sim.AllR rn k203 s203 := run203
theorem all204 : Sim.AllR rn k204 s204 := run204
theorem all202 : Sim.AllR rn k202 s202 := by
  have ha := all203
  have hb := all204
  rw [← up202] at ha
  rw [← un202] at hb
  exact ⟨ha, hb⟩
theorem all206 : Sim.AllR rn k206 s206 := run206
theorem all207 : Sim.AllR rn k207 s207 := run207
theorem all205 : Sim.AllR rn k205 s205 := by
  have ha := all206
  have hb := all207
  rw [← up205] at ha
  rw [← un205] at hb
  exact ⟨ha, hb⟩
theorem all201 : Sim.AllR rn k201 s201 := by
  have ha := all202
  have hb := all205
  rw [← up201] at ha
  rw [← un201] at hb
  exact ⟨ha, hb⟩
theorem all210 : Sim.AllR rn k210 s210 := run210
theorem all211 : Sim.AllR rn k211 s211 := run211
theorem all209 : Sim.AllR rn k209 s209 := by
  have ha := all210
  have hb := all211
  rw [← up209] at ha
  rw [← un209] at hb
  exact ⟨ha, hb⟩
theorem all213 : Sim.AllR rn k213 s213 := run213
theorem all214 : Sim.AllR rn k214 s214 := run214
theorem all212 : Sim.AllR rn k212 s212 := by
  have ha := all213
  have hb := all214
  rw [← up212] at ha
  rw [← un212] at hb
  exact ⟨ha, hb⟩
theorem all208 : Sim.AllR rn k208 s208 := by
  have ha := all209
  have hb := all212
  rw [← up208] at ha
  rw [← un208] at hb
  exact ⟨ha, hb⟩
theorem all200 : Sim.AllR rn k200 s200 := by
  have ha := all201
  have hb := all208
  rw [← up200] at ha
  rw [← un200] at hb
  exact ⟨ha, hb⟩
theorem all218 : Sim.AllR rn k218 s218 := run218
theorem all219 : Sim.AllR rn k219 s219 := run219
theorem all217 : Sim.AllR rn k217 s217 := by
  have ha := all218
  have hb := all219
  rw [← up217] at ha
  rw [← un217] at hb
  exact ⟨ha, hb⟩
theorem all221 : Sim.AllR rn k221 s221 := run221
theorem all222 : Sim.AllR rn k222 s222 := run222
theorem all220 : Sim.AllR rn k220 s220 := by
  have ha := all221
  have hb := all222
  rw [← up220] at ha
  rw [← un220] at hb
  exact ⟨ha, hb⟩
theorem all216 : Sim.AllR rn k216 s216 := by
  have ha := all217
  have hb := all220
  rw [← up216] at ha
  rw [← un216] at hb
  exact ⟨ha, hb⟩
theorem all225 : Sim.AllR rn k225 s225 := run225
theorem all226 : Sim.AllR rn k226 s226 := run226
theorem all224 : Sim.AllR rn k224 s224 := by
  have ha := all225
  have hb := all226
  rw [← up224] at ha
  rw [← un224] at hb
  exact ⟨ha, hb⟩
theorem all228 : Sim.AllR rn k228 s228 := run228
theorem all229 : Sim.AllR rn k229 s229 := run229
theorem all227 : Sim.AllR rn k227 s227 := by
  have ha := all228
  have hb := all229
  rw [← up227] at ha
  rw [← un227] at hb
  exact ⟨ha, hb⟩
theorem all223 : Sim.AllR rn k223 s223 := by
  have ha := all224
  have hb := all227
  rw [← up223] at ha
  rw [← un223] at hb
  exact ⟨ha, hb⟩
theorem all215 : Sim.AllR rn k215 s215 := by
  have ha := all216
  have hb := all223
  rw [← up215] at ha
  rw [← un215] at hb
  exact ⟨ha, hb⟩
theorem all199 : Sim.AllR rn k199 s199 := by
  have ha := all200
  have hb := all215
  rw [← up199] at ha
  rw [← un199] at hb
  exact ⟨ha, hb⟩
theorem all167 : Sim.AllR rn k167 s167 := by
  have ha := all168
  have hb := all199
  rw [← up167] at ha
  rw [← un167] at hb
  exact ⟨ha, hb⟩
theorem all135 : Sim.AllR rn k135 s135 := by
  have ha := all136
  have hb := all167
  rw [← up135] at ha
  rw [← un135] at hb
  exact ⟨ha, hb⟩
theorem all103 : Sim.AllR rn k103 s103 := by
  have ha := all104
  have hb := all135
  rw [← up103] at ha
  rw [← un103] at hb
  exact ⟨ha, hb⟩
theorem all71 : Sim.AllR rn k71 s71 := by
  have ha := all72
  have hb := all103
  rw [← up71] at ha
  rw [← un71] at hb
  exact ⟨ha, hb⟩
theorem all69 : Sim.AllR rn k69 s69 := by
  have ha := all70
  have hb := all71
  rw [← up69] at ha
  rw [← un69] at hb
  exact ⟨ha, hb⟩
theorem all67 : Sim.AllR rn k67 s67 := by
  have ha := all68
  have hb := all69
  rw [← up67] at ha
  rw [← un67] at hb
  exact ⟨ha, hb⟩
theorem all251 : Sim.AllR rn k251 s251 := run251
theorem all253 : Sim.AllR rn k253 s253 := run253
theorem all259 : Sim.AllR rn k259 s259 := run259
theorem all260 : Sim.AllR rn k260 s260 := run260
theorem all258 : Sim.AllR rn k258 s258 := by
  have ha := all259
  have hb := all260
  rw [← up258] at ha
  rw [← un258] at hb
  exact ⟨ha, hb⟩
theorem all262 : Sim.AllR rn k262 s262 := run262
theorem all263 : Sim.AllR rn k263 s263 := run263
theorem all261 : Sim.AllR rn k261 s261 := by
  have ha := all262
  have hb := all263
  rw [← up261] at ha
  rw [← un261] at hb
  exact ⟨ha, hb⟩
theorem all257 : Sim.AllR rn k257 s257 := by
  have ha := all258
  have hb := all261
  rw [← up257] at ha
  rw [← un257] at hb
  exact ⟨ha, hb⟩
theorem all266 : Sim.AllR rn k266 s266 := run266
theorem all267 : Sim.AllR rn k267 s267 := run267
theorem all265 : Sim.AllR rn k265 s265 := by
  have ha := all266
  have hb := all267
  rw [← up265] at ha
  rw [← un265] at hb
  exact ⟨ha, hb⟩
theorem all269 : Sim.AllR rn k269 s269 := run269
theorem all270 : Sim.AllR rn k270 s270 := run270
theorem all268 : Sim.AllR rn k268 s268 := by
  have ha := all269
  have hb := all270
  rw [← up268] at ha
  rw [← un268] at hb
  exact ⟨ha, hb⟩
theorem all264 : Sim.AllR rn k264 s264 := by
  have ha := all265
  have hb := all268
  rw [← up264] at ha
  rw [← un264] at hb
  exact ⟨ha, hb⟩
theorem all256 : Sim.AllR rn k256 s256 := by
  have ha := all257
  have hb := all264
  rw [← up256] at ha
  rw [← un256] at hb
  exact ⟨ha, hb⟩
theorem all274 : Sim.AllR rn k274 s274 := run274
theorem all275 : Sim.AllR rn k275 s275 := run275
theorem all273 : Sim.AllR rn k273 s273 := by
  have ha := all274
  have hb := all275
  rw [← up273] at ha
  rw [← un273] at hb
  exact ⟨ha, hb⟩
theorem all277 : Sim.AllR rn k277 s277 := run277
theorem all278 : Sim.AllR rn k278 s278 := run278
theorem all276 : Sim.AllR rn k276 s276 := by
  have ha := all277
  have hb := all278
  rw [← up276] at ha
  rw [← un276] at hb
  exact ⟨ha, hb⟩
theorem all272 : Sim.AllR rn k272 s272 := by
  have ha := all273
  have hb := all276
  rw [← up272] at ha
  rw [← un272] at hb
  exact ⟨ha, hb⟩
theorem all281 : Sim.AllR rn k281 s281 := run281
theorem all282 : Sim.AllR rn k282 s282 := run282
theorem all280 : Sim.AllR rn k280 s280 := by
  have ha := all281
  have hb := all282
  rw [← up280] at ha
  rw [← un280] at hb
  exact ⟨ha, hb⟩
theorem all284 : Sim.AllR rn k284 s284 := run284
theorem all285 : Sim.AllR rn k285 s285 := run285
theorem all283 : Sim.AllR rn k283 s283 := by
  have ha := all284
  have hb := all285
  rw [← up283] at ha
  rw [← un283] at hb
  exact ⟨ha, hb⟩
theorem all279 : Sim.AllR rn k279 s279 := by
  have ha := all280
  have hb := all283
  rw [← up279] at ha
  rw [← un279] at hb
  exact ⟨ha, hb⟩
theorem all271 : Sim.AllR rn k271 s271 := by
  have ha := all272
  have hb := all279
  rw [← up271] at ha
  rw [← un271] at hb
  exact ⟨ha, hb⟩
theorem all255 : Sim.AllR rn k255 s255 := by
  have ha := all256
  have hb := all271
  rw [← up255] at ha
  rw [← un255] at hb
  exact ⟨ha, hb⟩
theorem all291 : Sim.AllR rn k291 s291 := run291
theorem all292 : Sim.AllR rn k292 s292 := run292
theorem all290 : Sim.AllR rn k290 s290 := by
  have ha := all291
  have hb := all292
  rw [← up290] at ha
  rw [← un290] at hb
  exact ⟨ha, hb⟩
theorem all294 : Sim.AllR rn k294 s294 := run294
theorem all295 : Sim.AllR rn k295 s295 := run295
theorem all293 : Sim.AllR rn k293 s293 := by
  have ha := all294
  have hb := all295
  rw [← up293] at ha
  rw [← un293] at hb
  exact ⟨ha, hb⟩
theorem all289 : Sim.AllR rn k289 s289 := by
  have ha := all290
  have hb := all293
  rw [← up289] at ha
  rw [← un289] at hb
  exact ⟨ha, hb⟩
theorem all298 : Sim.AllR rn k298 s298 := run298
theorem all299 : Sim.AllR rn k299 s299 := run299
theorem all297 : Sim.AllR rn k297 s297 := by
  have ha := all298
  have hb := all299
  rw [← up297] at ha
  rw [← un297] at hb
  exact ⟨ha, hb⟩
theorem all301 : Sim.AllR rn k301 s301 := run301
theorem all302 : Sim.AllR rn k302 s302 := run302
theorem all300 : Sim.AllR rn k300 s300 := by
  have ha := all301
  have hb := all302
  rw [← up300] at ha
  rw [← un300] at hb
  exact ⟨ha, hb⟩
theorem all296 : Sim.AllR rn k296 s296 := by
  have ha := all297
  have hb := all300
  rw [← up296] at ha
  rw [← un296] at hb
  exact ⟨ha, hb⟩
theorem all288 : Sim.AllR rn k288 s288 := by
  have ha := all289
  have hb := all296
  rw [← up288] at ha
  rw [← un288] at hb
  exact ⟨ha, hb⟩
theorem all306 : Sim.AllR rn k306 s306 := run306
theorem all307 : Sim.AllR rn k307 s307 := run307
theorem all305 : Sim.AllR rn k305 s305 := by
  have ha := all306
  have hb := all307
  rw [← up305] at ha
  rw [← un305] at hb
  exact ⟨ha, hb⟩
theorem all309 : Sim.AllR rn k309 s309 := run309
theorem all310 : Sim.AllR rn k310 s310 := run310
theorem all308 : Sim.AllR rn k308 s308 := by
  have ha := all309
  have hb := all310
  rw [← up308] at ha
  rw [← un308] at hb
  exact ⟨ha, hb⟩
theorem all304 : Sim.AllR rn k304 s304 := by
  have ha := all305
  have hb := all308
  rw [← up304] at ha
  rw [← un304] at hb
  exact ⟨ha, hb⟩
theorem all313 : Sim.AllR rn k313 s313 := run313
theorem all314 : Sim.AllR rn k314 s314 := run314
theorem all312 : Sim.AllR rn k312 s312 := by
  have ha := all313
  have hb := all314
  rw [← up312] at ha
  rw [← un312] at hb
  exact ⟨ha, hb⟩
theorem all316 : Sim.AllR rn k316 s316 := run316
theorem all317 : Sim.AllR rn k317 s317 := run317
theorem all315 : Sim.AllR rn k315 s315 := by
  have ha := all316
  have hb := all317
  rw [← up315] at ha
  rw [← un315] at hb
  exact ⟨ha, hb⟩
theorem all311 : Sim.AllR rn k311 s311 := by
  have ha := all312
  have hb := all315
  rw [← up311] at ha
  rw [← un311] at hb
  exact ⟨ha, hb⟩
theorem all303 : Sim.AllR rn k303 s303 := by
  have ha := all304
  have hb := all311
  rw [← up303] at ha
  rw [← un303] at hb
  exact ⟨ha, hb⟩
theorem all287 : Sim.AllR rn k287 s287 := by
  have ha := all288
  have hb := all303
  rw [← up287] at ha
  rw [← un287] at hb
  exact ⟨ha, hb⟩
theorem all323 : Sim.AllR rn k323 s323 := run323
theorem all324 : Sim.AllR rn k324 s324 := run324
theorem all322 : Sim.AllR rn k322 s322 := by
  have ha := all323
  have hb := all324
  rw [← up322] at ha
  rw [← un322] at hb
  exact ⟨ha, hb⟩
theorem all326 : Sim.AllR rn k326 s326 := run326
theorem all327 : Sim.AllR rn k327 s327 := run327
theorem all325 : Sim.AllR rn k325 s325 := by
  have ha := all326
  have hb := all327
  rw [← up325] at ha
  rw [← un325] at hb
  exact ⟨ha, hb⟩
theorem all321 : Sim.AllR rn k321 s321 := by
  have ha := all322
  have hb := all325
  rw [← up321] at ha
  rw [← un321] at hb
  exact ⟨ha, hb⟩
theorem all330 : Sim.AllR rn k330 s330 := run330
theorem all331 : Sim.AllR rn k331 s331 := run331
theorem all329 : Sim.AllR rn k329 s329 := by
  have ha := all330
  have hb := all331
  rw [← up329] at ha
  rw [← un329] at hb
  exact ⟨ha, hb⟩
theorem all333 : Sim.AllR rn k333 s333 := run333
theorem all334 : Sim.AllR rn k334 s334 := run334
theorem all332 : Sim.AllR rn k332 s332 := by
  have ha := all333
  have hb := all334
  rw [← up332] at ha
  rw [← un332] at hb
  exact ⟨ha, hb⟩
theorem all328 : Sim.AllR rn k328 s328 := by
  have ha := all329
  have hb := all332
  rw [← up328] at ha
  rw [← un328] at hb
  exact ⟨ha, hb⟩
theorem all320 : Sim.AllR rn k320 s320 := by
  have ha := all321
  have hb := all328
  rw [← up320] at ha
  rw [← un320] at hb
  exact ⟨ha, hb⟩
theorem all338 : Sim.AllR rn k338 s338 := run338
theorem all339 : Sim.AllR rn k339 s339 := run339
theorem all337 : Sim.AllR rn k337 s337 := by
  have ha := all338
  have hb := all339
  rw [← up337] at ha
  rw [← un337] at hb
  exact ⟨ha, hb⟩
theorem all341 : Sim.AllR rn k341 s341 := run341
theorem all342 : Sim.AllR rn k342 s342 := run342
theorem all340 : Sim.AllR rn k340 s340 := by
  have ha := all341
  have hb := all342
  rw [← up340] at ha
  rw [← un340] at hb
  exact ⟨ha, hb⟩
theorem all336 : Sim.AllR rn k336 s336 := by
  have ha := all337
  have hb := all340
  rw [← up336] at ha
  rw [← un336] at hb
  exact ⟨ha, hb⟩
theorem all345 : Sim.AllR rn k345 s345 := run345
theorem all346 : Sim.AllR rn k346 s346 := run346
theorem all344 : Sim.AllR rn k344 s344 := by
  have ha := all345
  have hb := all346
  rw [← up344] at ha
  rw [← un344] at hb
  exact ⟨ha, hb⟩
theorem all348 : Sim.AllR rn k348 s348 := run348
theorem all349 : Sim.AllR rn k349 s349 := run349
theorem all347 : Sim.AllR rn k347 s347 := by
  have ha := all348
  have hb := all349
  rw [← up347] at ha
  rw [← un347] at hb
  exact ⟨ha, hb⟩
theorem all343 : Sim.AllR rn k343 s343 := by
  have ha := all344
  have hb := all347
  rw [← up343] at ha
  rw [← un343] at hb
  exact ⟨ha, hb⟩
theorem all335 : Sim.AllR rn k335 s335 := by
  have ha := all336
  have hb := all343
  rw [← up335] at ha
  rw [← un335] at hb
  exact ⟨ha, hb⟩
theorem all319 : Sim.AllR rn k319 s319 := by
  have ha := all320
  have hb := all335
  rw [← up319] at ha
  rw [← un319] at hb
  exact ⟨ha, hb⟩
theorem all355 : Sim.AllR rn k355 s355 := run355
theorem all356 : Sim.AllR rn k356 s356 := run356
theorem all354 : Sim.AllR rn k354 s354 := by
  have ha := all355
  have hb := all356
  rw [← up354] at ha
  rw [← un354] at hb
  exact ⟨ha, hb⟩
theorem all358 : Sim.AllR rn k358 s358 := run358
theorem all359 : Sim.AllR rn k359 s359 := run359
theorem all357 : Sim.AllR rn k357 s357 := by
  have ha := all358
  have hb := all359
  rw [← up357] at ha
  rw [← un357] at hb
  exact ⟨ha, hb⟩
theorem all353 : Sim.AllR rn k353 s353 := by
  have ha := all354
  have hb := all357
  rw [← up353] at ha
  rw [← un353] at hb
  exact ⟨ha, hb⟩
theorem all362 : Sim.AllR rn k362 s362 := run362
theorem all363 : Sim.AllR rn k363 s363 := run363
theorem all361 : Sim.AllR rn k361 s361 := by
  have ha := all362
  have hb := all363
  rw [← up361] at ha
  rw [← un361] at hb
  exact ⟨ha, hb⟩
theorem all365 : Sim.AllR rn k365 s365 := run365
theorem all366 : Sim.AllR rn k366 s366 := run366
theorem all364 : Sim.AllR rn k364 s364 := by
  have ha := all365
  have hb := all366
  rw [← up364] at ha
  rw [← un364] at hb
  exact ⟨ha, hb⟩
theorem all360 : Sim.AllR rn k360 s360 := by
  have ha := all361
  have hb := all364
  rw [← up360] at ha
  rw [← un360] at hb
  exact ⟨ha, hb⟩
theorem all352 : Sim.AllR rn k352 s352 := by
  have ha := all353
  have hb := all360
  rw [← up352] at ha
  rw [← un352] at hb
  exact ⟨ha, hb⟩
theorem all370 : Sim.AllR rn k370 s370 := run370
theorem all371 : Sim.AllR rn k371 s371 := run371
theorem all369 : Sim.AllR rn k369 s369 := by
  have ha := all370
  have hb := all371
  rw [← up369] at ha
  rw [← un369] at hb
  exact ⟨ha, hb⟩
theorem all373 : Sim.AllR rn k373 s373 := run373
theorem all374 : Sim.AllR rn k374 s374 := run374
theorem all372 : Sim.AllR rn k372 s372 := by
  have ha := all373
  have hb := all374
  rw [← up372] at ha
  rw [← un372] at hb
  exact ⟨ha, hb⟩
theorem all368 : Sim.AllR rn k368 s368 := by
  have ha := all369
  have hb := all372
  rw [← up368] at ha
  rw [← un368] at hb
  exact ⟨ha, hb⟩
theorem all377 : Sim.AllR rn k377 s377 := run377
theorem all378 : Sim.AllR rn k378 s378 := run378
theorem all376 : Sim.AllR rn k376 s376 := by
  have ha := all377
  have hb := all378
  rw [← up376] at ha
  rw [← un376] at hb
  exact ⟨ha, hb⟩
theorem all380 : Sim.AllR rn k380 s380 := run380
theorem all381 : Sim.AllR rn k381 s381 := run381
theorem all379 : Sim.AllR rn k379 s379 := by
  have ha := all380
  have hb := all381
  rw [← up379] at ha
  rw [← un379] at hb
  exact ⟨ha, hb⟩
theorem all375 : Sim.AllR rn k375 s375 := by
  have ha := all376
  have hb := all379
  rw [← up375] at ha
  rw [← un375] at hb
  exact ⟨ha, hb⟩
theorem all367 : Sim.AllR rn k367 s367 := by
  have ha := all368
  have hb := all375
  rw [← up367] at ha
  rw [← un367] at hb
  exact ⟨ha, hb⟩
theorem all351 : Sim.AllR rn k351 s351 := by
  have ha := all352
  have hb := all367
  rw [← up351] at ha
  rw [← un351] at hb
  exact ⟨ha, hb⟩
theorem all386 : Sim.AllR rn k386 s386 := run386
theorem all387 : Sim.AllR rn k387 s387 := run387
theorem all385 : Sim.AllR rn k385 s385 := by
  have ha := all386
  have hb := all387
  rw [← up385] at ha
  rw [← un385] at hb
  exact ⟨ha, hb⟩
theorem all389 : Sim.AllR rn k389 s389 := run389
theorem all390 : Sim.AllR rn k390 s390 := run390
theorem all388 : Sim.AllR rn k388 s388 := by
  have ha := all389
  have hb := all390
  rw [← up388] at ha
  rw [← un388] at hb
  exact ⟨ha, hb⟩
theorem all384 : Sim.AllR rn k384 s384 := by
  have ha := all385
  have hb := all388
  rw [← up384] at ha
  rw [← un384] at hb
  exact ⟨ha, hb⟩
theorem all393 : Sim.AllR rn k393 s393 := run393
theorem all394 : Sim.AllR rn k394 s394 := run394
theorem all392 : Sim.AllR rn k392 s392 := by
  have ha := all393
  have hb := all394
  rw [← up392] at ha
  rw [← un392] at hb
  exact ⟨ha, hb⟩
theorem all396 : Sim.AllR rn k396 s396 := run396
theorem all397 : Sim.AllR rn k397 s397 := run397
theorem all395 : Sim.AllR rn k395 s395 := by
  have ha := all396
  have hb := all397
  rw [← up395] at ha
  rw [← un395] at hb
  exact ⟨ha, hb⟩
theorem all391 : Sim.AllR rn k391 s391 := by
  have ha := all392
  have hb := all395
  rw [← up391] at ha
  rw [← un391] at hb
  exact ⟨ha, hb⟩
theorem all383 : Sim.AllR rn k383 s383 := by
  have ha := all384
  have hb := all391
  rw [← up383] at ha
  rw [← un383] at hb
  exact ⟨ha, hb⟩
theorem all401 : Sim.AllR rn k401 s401 := run401
theorem all402 : Sim.AllR rn k402 s402 := run402
theorem all400 : Sim.AllR rn k400 s400 := by
  have ha := all401
  have hb := all402
  rw [← up400] at ha
  rw [← un400] at hb
  exact ⟨ha, hb⟩
theorem all404 : Sim.AllR rn k404 s404 := run404
theorem all405 : Sim.AllR rn k405 s405 := run405
theorem all403 : Sim.AllR rn k403 s403 := by
  have ha := all404
  have hb := all405
  rw [← up403] at ha
  rw [← un403] at hb
  exact ⟨ha, hb⟩
theorem all399 : Sim.AllR rn k399 s399 := by
  have ha := all400
  have hb := all403
  rw [← up399] at ha
  rw [← un399] at hb
  exact ⟨ha, hb⟩
theorem all408 : Sim.AllR rn k408 s408 := run408
theorem all409 : Sim.AllR rn k409 s409 := run409
theorem all407 : Sim.AllR rn k407 s407 := by
  have ha := all408
  have hb := all409
  rw [← up407] at ha
  rw [← un407] at hb
  exact ⟨ha, hb⟩
theorem all411 : Sim.AllR rn k411 s411 := run411
theorem all412 : Sim.AllR rn k412 s412 := run412
theorem all410 : Sim.AllR rn k410 s410 := by
  have ha := all411
  have hb := all412
  rw [← up410] at ha
  rw [← un410] at hb
  exact ⟨ha, hb⟩
theorem all406 : Sim.AllR rn k406 s406 := by
  have ha := all407
  have hb := all410
  rw [← up406] at ha
  rw [← un406] at hb
  exact ⟨ha, hb⟩
theorem all398 : Sim.AllR rn k398 s398 := by
  have ha := all399
  have hb := all406
  rw [← up398] at ha
  rw [← un398] at hb
  exact ⟨ha, hb⟩
theorem all382 : Sim.AllR rn k382 s382 := by
  have ha := all383
  have hb := all398
  rw [← up382] at ha
  rw [← un382] at hb
  exact ⟨ha, hb⟩
theorem all350 : Sim.AllR rn k350 s350 := by
  have ha := all351
  have hb := all382
  rw [← up350] at ha
  rw [← un350] at hb
  exact ⟨ha, hb⟩
theorem all318 : Sim.AllR rn k318 s318 := by
  have ha := all319
  have hb := all350
  rw [← up318] at ha
  rw [← un318] at hb
  exact ⟨ha, hb⟩
theorem all286 : Sim.AllR rn k286 s286 := by
  have ha := all287
  have hb := all318
  rw [← up286] at ha
  rw [← un286] at hb
  exact ⟨ha, hb⟩
theorem all254 : Sim.AllR rn k254 s254 := by
  have ha := all255
  have hb := all286
  rw [← up254] at ha
  rw [← un254] at hb
  exact ⟨ha, hb⟩
theorem all252 : Sim.AllR rn k252 s252 := by
  have ha := all253
  have hb := all254
  rw [← up252] at ha
  rw [← un252] at hb
  exact ⟨ha, hb⟩
theorem all250 : Sim.AllR rn k250 s250 := by
  have ha := all251
  have hb := all252
  rw [← up250] at ha
  rw [← un250] at hb
  exact ⟨ha, hb⟩
theorem all249 : Sim.AllR rn k249 s249 := by
  have ha := all250
  rw [← up249] at ha
  exact ⟨nn249, ha⟩
theorem all248 : Sim.AllR rn k248 s248 := by
  have ha := all249
  rw [← up248] at ha
  exact ⟨nn248, ha⟩
theorem all247 : Sim.AllR rn k247 s247 := by
  have ha := all248
  rw [← up247] at ha
  exact ⟨nn247, ha⟩
theorem all246 : Sim.AllR rn k246 s246 := by
  have ha := all247
  rw [← up246] at ha
  exact ⟨nn246, ha⟩
theorem all245 : Sim.AllR rn k245 s245 := by
  have ha := all246
  rw [← up245] at ha
  exact ⟨nn245, ha⟩
theorem all244 : Sim.AllR rn k244 s244 := by
  have ha := all245
  rw [← up244] at ha
  exact ⟨nn244, ha⟩
theorem all243 : Sim.AllR rn k243 s243 := by
  have ha := all244
  rw [← up243] at ha
  exact ⟨nn243, ha⟩
theorem all242 : Sim.AllR rn k242 s242 := by
  have ha := all243
  rw [← up242] at ha
  exact ⟨nn242, ha⟩
theorem all241 : Sim.AllR rn k241 s241 := by
  have ha := all242
  rw [← up241] at ha
  exact ⟨nn241, ha⟩
theorem all240 : Sim.AllR rn k240 s240 := by
  have ha := all241
  rw [← up240] at ha
  exact ⟨nn240, ha⟩
theorem all239 : Sim.AllR rn k239 s239 := by
  have ha := all240
  rw [← up239] at ha
  exact ⟨nn239, ha⟩
theorem all238 : Sim.AllR rn k238 s238 := by
  have ha := all239
  rw [← up238] at ha
  exact ⟨nn238, ha⟩
theorem all237 : Sim.AllR rn k237 s237 := by
  have ha := all238
  rw [← up237] at ha
  exact ⟨nn237, ha⟩
theorem all236 : Sim.AllR rn k236 s236 := by
  have ha := all237
  rw [← up236] at ha
  exact ⟨nn236, ha⟩
theorem all235 : Sim.AllR rn k235 s235 := by
  have ha := all236
  rw [← up235] at ha
  exact ⟨nn235, ha⟩
theorem all234 : Sim.AllR rn k234 s234 := by
  have ha := all235
  rw [← up234] at ha
  exact ⟨nn234, ha⟩
theorem all233 : Sim.AllR rn k233 s233 := by
  have ha := all234
  rw [← up233] at ha
  exact ⟨nn233, ha⟩
theorem all232 : Sim.AllR rn k232 s232 := by
  have ha := all233
  rw [← up232] at ha
  exact ⟨nn232, ha⟩
theorem all231 : Sim.AllR rn k231 s231 := by
  have ha := all232
  rw [← up231] at ha
  exact ⟨nn231, ha⟩
theorem all230 : Sim.AllR rn k230 s230 := by
  have ha := all231
  rw [← up230] at ha
  exact ⟨nn230, ha⟩
theorem all66 : Sim.AllR rn k66 s66 := by
  have ha := all67
  have hb := all230
  rw [← up66] at ha
  rw [← un66] at hb
  exact ⟨ha, hb⟩
theorem all65 : Sim.AllR rn k65 s65 := by
  have ha := all66
  rw [← up65] at ha
  exact ⟨nn65, ha⟩
theorem all64 : Sim.AllR rn k64 s64 := by
  have ha := all65
  rw [← up64] at ha
  exact ⟨nn64, ha⟩
theorem all63 : Sim.AllR rn k63 s63 := by
  have ha := all64
  rw [← up63] at ha
  exact ⟨nn63, ha⟩
theorem all62 : Sim.AllR rn k62 s62 := by
  have ha := all63
  rw [← up62] at ha
  exact ⟨nn62, ha⟩
theorem all61 : Sim.AllR rn k61 s61 := by
  have ha := all62
  rw [← up61] at ha
  exact ⟨nn61, ha⟩
theorem all60 : Sim.AllR rn k60 s60 := by
  have ha := all61
  rw [← up60] at ha
  exact ⟨nn60, ha⟩
theorem all59 : Sim.AllR rn k59 s59 := by
  have ha := all60
  rw [← up59] at ha
  exact ⟨nn59, ha⟩
theorem all58 : Sim.AllR rn k58 s58 := by
  have ha := all59
  rw [← up58] at ha
  exact ⟨nn58, ha⟩
theorem all57 : Sim.AllR rn k57 s57 := by
  have ha := all58
  rw [← up57] at ha
  exact ⟨nn57, ha⟩
theorem all56 : Sim.AllR rn k56 s56 := by
  have ha := all57
  rw [← up56] at ha
  exact ⟨nn56, ha⟩
theorem all55 : Sim.AllR rn k55 s55 := by
  have ha := all56
  rw [← up55] at ha
  exact ⟨nn55, ha⟩
theorem all54 : Sim.AllR rn k54 s54 := by
  have ha := all55
  rw [← up54] at ha
  exact ⟨nn54, ha⟩
theorem all53 : Sim.AllR rn k53 s53 := by
  have ha := all54
  rw [← up53] at ha
  exact ⟨nn53, ha⟩
theorem all52 : Sim.AllR rn k52 s52 := by
  have ha := all53
  rw [← up52] at ha
  exact ⟨nn52, ha⟩
theorem all51 : Sim.AllR rn k51 s51 := by
  have ha := all52
  rw [← up51] at ha
  exact ⟨nn51, ha⟩
theorem all50 : Sim.AllR rn k50 s50 := by
  have ha := all51
  rw [← up50] at ha
  exact ⟨nn50, ha⟩
theorem all49 : Sim.AllR rn k49 s49 := by
  have ha := all50
  rw [← up49] at ha
  exact ⟨nn49, ha⟩
theorem all48 : Sim.AllR rn k48 s48 := by
  have ha := all49
  rw [← up48] at ha
  exact ⟨nn48, ha⟩
theorem all47 : Sim.AllR rn k47 s47 := by
  have ha := all48
  rw [← up47] at ha
  exact ⟨nn47, ha⟩
theorem all46 : Sim.AllR rn k46 s46 := by
  have ha := all47
  rw [← up46] at ha
  exact ⟨nn46, ha⟩
theorem all22 : Sim.AllR rn k22 s22 := by
  have ha := all23
  have hb := all46
  rw [← up22] at ha
  rw [← un22] at hb
  exact ⟨ha, hb⟩
theorem all21 : Sim.AllR rn k21 s21 := by
  have ha := all22
  rw [← up21] at ha
  exact ⟨nn21, ha⟩
theorem all20 : Sim.AllR rn k20 s20 := by
  have ha := all21
  rw [← up20] at ha
  exact ⟨nn20, ha⟩
theorem all19 : Sim.AllR rn k19 s19 := by
  have ha := all20
  rw [← up19] at ha
  exact ⟨nn19, ha⟩
theorem all18 : Sim.AllR rn k18 s18 := by
  have ha := all19
  rw [← up18] at ha
  exact ⟨nn18, ha⟩
theorem all17 : Sim.AllR rn k17 s17 := by
  have ha := all18
  rw [← up17] at ha
  exact ⟨nn17, ha⟩
theorem all16 : Sim.AllR rn k16 s16 := by
  have ha := all17
  rw [← up16] at ha
  exact ⟨nn16, ha⟩
theorem all15 : Sim.AllR rn k15 s15 := by
  have ha := all16
  rw [← up15] at ha
  exact ⟨nn15, ha⟩
theorem all14 : Sim.AllR rn k14 s14 := by
  have ha := all15
  rw [← up14] at ha
  exact ⟨nn14, ha⟩
theorem all13 : Sim.AllR rn k13 s13 := by
  have ha := all14
  rw [← up13] at ha
  exact ⟨nn13, ha⟩
theorem all12 : Sim.AllR rn k12 s12 := by
  have ha := all13
  rw [← up12] at ha
  exact ⟨nn12, ha⟩
theorem all11 : Sim.AllR rn k11 s11 := by
  have ha := all12
  rw [← up11] at ha
  exact ⟨nn11, ha⟩
theorem all10 : Sim.AllR rn k10 s10 := by
  have ha := all11
  rw [← up10] at ha
  exact ⟨nn10, ha⟩
theorem all9 : Sim.AllR rn k9 s9 := by
  have ha := all10
  rw [← up9] at ha
  exact ⟨nn9, ha⟩
theorem all8 : Sim.AllR rn k8 s8 := by
  have ha := all9
  rw [← up8] at ha
  exact ⟨nn8, ha⟩
theorem all7 : Sim.AllR rn k7 s7 := by
  have ha := all8
  rw [← up7] at ha
  exact ⟨nn7, ha⟩
theorem all6 : Sim.AllR rn k6 s6 := by
  have ha := all7
  rw [← up6] at ha
  exact ⟨nn6, ha⟩
theorem all5 : Sim.AllR rn k5 s5 := by
  have ha := all6
  rw [← up5] at ha
  exact ⟨nn5, ha⟩
theorem all4 : Sim.AllR rn k4 s4 := by
  have ha := all5
  rw [← up4] at ha
  exact ⟨nn4, ha⟩
theorem all3 : Sim.AllR rn k3 s3 := by
  have ha := all4
  rw [← up3] at ha
  exact ⟨nn3, ha⟩
theorem all2 : Sim.AllR rn k2 s2 := by
  have ha := all3
  rw [← up2] at ha
  exact ⟨nn2, ha⟩
theorem all0 : Sim.AllR rn k0 s0 := by
  have ha := all1
  have hb := all2
  rw [← up0] at ha
  rw [← un0] at hb
  exact ⟨ha, hb⟩
theorem runs : Sim.AllR rn (Sim.factsW shp con [] 4) s0 := by
  rw [root]; exact all0
theorem calls [Sim.Ev] (K : Sim.Facts) (bs : List Value) (w : World) [Sim.KOk Tryd.prog w.heap.size w] (e : rn K = true) (hv : Sim.VRs [] (Sim.argsV 0 shp) bs) (hK : Sim.FactsOk K)
    (hO : ∀ (r : Nat) (o : Obj), Sim.Ev.heap r = some o → r < w.heap.size ∧ w.heap[r]? = some o) (hh : Sim.Holds [] w) (hG : Tryd.prog.globals.size ≤ w.heap.size) :
    Calls Tryd.prog 9 ⟨bs⟩ w fun e w' => e = .returned (.bool true) ∧ Below w.heap.size w w' := by
  rw [inpIs] at hv
  exact Sim.true_of_C mixed e hv w hK hO hG
theorem g_unicode_utf8_acceptRanges : Tryd.prog.globalNamed "unicode/utf8.acceptRanges" = some 2 := by kernel_rfl
theorem t_unicode_utf8_acceptRanges : (Tryd.prog.globals[2]?).map (·.type) = some 138 := by kernel_rfl
theorem c_unicode_utf8_acceptRanges : Sim.cellsOfD (H := Unit) Rows.laid_unicode_utf8_acceptRanges = [] := by kernel_rfl
theorem g_unicode_utf8_first : Tryd.prog.globalNamed "unicode/utf8.first" = some 1 := by kernel_rfl
theorem t_unicode_utf8_first : (Tryd.prog.globals[1]?).map (·.type) = some 135 := by kernel_rfl
theorem c_unicode_utf8_first : Tryd.prog.cellsOf 5 = 1 := by kernel_rfl
noncomputable def fx : Sim.Vars := [(1, Sim.cellsOfD (H := Unit) Rows.laid_unicode_utf8_first), (2, Sim.cellsOfD (H := Unit) Rows.laid_unicode_utf8_acceptRanges)]
theorem of_laid {W : World} (h : laidMetH Tryd.prog Rows.flagsHoldsRow.laid W) : Sim.Holds fx W ∧ Tryd.prog.globals.size ≤ W.heap.size := by
  rw [show laidMetH Tryd.prog Rows.flagsHoldsRow.laid W = _ from MakeChecks.laidMetH_plain _ _ _ (by kernel_rfl)] at h
  obtain ⟨ps, ⟨g0, t0, cs0, f0, p0, q0, hg0, ht0, hv0, hd0, ⟨g1, t1, cs1, f1, p1, q1, hg1, ht1, hv1, hd1, _, _⟩, _⟩, _⟩ := h
  obtain rfl := Option.some.inj (g_unicode_utf8_acceptRanges.symm.trans hg0)
  obtain rfl := Option.some.inj (t_unicode_utf8_acceptRanges.symm.trans ht0)
  obtain rfl := Option.some.inj (g_unicode_utf8_first.symm.trans hg1)
  obtain rfl := Option.some.inj (t_unicode_utf8_first.symm.trans ht1)
  have H0 := Sim.holds_var (L := Sim.cellsOfD (H := Unit) Rows.laid_unicode_utf8_acceptRanges) hg0 hv0 (fun o v h => by rw [c_unicode_utf8_acceptRanges] at h; simp at h)
  have H1 := Sim.holds_var hg1 hv1 (Sim.cells_of_ints Tryd.underlying135 Tryd.underlying5 c_unicode_utf8_first hd1)
  refine ⟨fun p hp => ?_, ?_⟩
  · simp only [fx, List.mem_cons, List.not_mem_nil, or_false] at hp
    rcases hp with rfl | rfl
    · exact H1
    · exact H0
  · obtain ⟨c, e, f, h, _⟩ := H0
    exact Sim.size_of_heap h (by have : Tryd.prog.globals.size = 3 := by kernel_rfl
                                 omega)

/-! THE ROW -/
set_option maxRecDepth 100000 in
theorem lifted (os : Os) (started : os.Started) (H : Type) (enc : TypeId × Value → H) :
    ReturnsInHanded {} Tryd.checked os 9 .any (fun w args => (Rows.flagsHoldsSpec.pre enc Tryd.prog Tryd.f9 [] false w args ∧ laidMetH Tryd.prog Rows.flagsHoldsRow.laid w) ∧ sizedMet enc Tryd.prog Tryd.f9 (OpenSpec.ofChange Rows.flagsHoldsSpec) false w args)
      (Rows.flagsHoldsSpec.post enc Tryd.prog Tryd.f9 false true false false) := by
  refine returnsInHanded_of_change_and (C := Tryd.checked) (X := fun w _ => laidMetH Tryd.prog Rows.flagsHoldsRow.laid w) (fun _ _ _ hh h => h.of_heap hh) own started (by kernel_rfl) Tryd.func9
    (ChangeSpec.witness_shaped (enc := enc) (C := Tryd.checked) (os := os) (X := fun w _ => laidMetH Tryd.prog Rows.flagsHoldsRow.laid w) false (World.laidAll Tryd.prog os Rows.flagsHoldsRow.laid) #[.int .u32 0, .int .u32 0, .int .u32 0, .int .u32 0, .bool false] 8 (World.laidAll_os _ _ _) (World.shaped_of_ZipB (by kernel_rfl) (by kernel_rfl)) (by kernel_rfl) (by kernel_rfl) (by kernel_rfl) (by rw [MakeChecks.laidMetH_plain _ _ _ (by kernel_rfl)]; exact laidMet_laidAll _ (by kernel_rfl) (by kernel_rfl))) ?_
  intro W base vs ds gs before hval hW _ _ hL _
  obtain ⟨hw, hG⟩ := of_laid hL
  refine Sim.post_of_R (P := Tryd.prog) (fn := Tryd.f9) (s := Rows.flagsHoldsSpec) (fx := []) (con := con) (rn := rn) mixed laidOut rfl (by kernel_rfl : Tryd.f9.resultTypes = #[4]) Tryd.underlying4 (by kernel_rfl) rfl ?_ args (by kernel_rfl) runs calls (fun e he w' hb => ?_) (fun p hp => by cases hp) hG hval hW
  · intro ds hds
    match ds, hds with
    | [d0, d1, d2, d3, d4], _ => rfl
  · simp only [con, List.mem_cons, List.not_mem_nil, or_false] at he
    subst he
    have hwf : Sim.Holds fx w' := fun p hp => by
      obtain ⟨c, e, f, h1, h2⟩ := hw p hp
      exact ⟨c, e, f, by rw [hb.block _ (Array.getElem?_eq_some_iff.1 h1).1]; exact h1, h2⟩
    have hs := hb.size
    refine (known w' hwf (by omega)).mono fun e' w'' ⟨h1, h2⟩ => ⟨_, h1, .bool true, h2⟩

theorem over : Rows.FlagsHoldsSaid :=
  OpenClaim.holds_of_wide 9 Tryd.f9 rfl rfl rfl rfl rfl rfl rfl ⟨rfl, rfl, rfl, rfl, rfl⟩ rfl rfl rfl rfl rfl (by kernel_rfl) Tryd.func9 (by kernel_rfl)
    (of_decide_eq_true (by kernel_rfl)) (by unfold Func.isWrapper; first | (rw [if_pos (by decide +kernel)]; kernel_rfl) | (rw [if_neg (by decide +kernel)]; exact ⟨rfl, rfl⟩))
    (fun os started H enc _ => lifted os started H enc)

/-- THE STATEMENT -/
theorem proved : Rows.FlagsHoldsCardSaid :=
  Claim7.holds_tied_plain_at .later [] [.data, .pinned] true (true, "16a22bbbbf6d938e126787e9323210ff6c2c1b7d9341b1484b251fea3584e2c3") true
    over (fun _ h => by cases h) (by kernel_rfl) (fun _ h => by cases h) flagsHolds_row_tie rfl ⟨rfl, rfl⟩ (by kernel_rfl) rfl
    (fun f fn hf hfn => by
      obtain rfl : f = 9 := Option.some.inj ((show Tryd.prog.funcNamed Rows.flagsHoldsRow.func = some 9 by kernel_rfl).symm.trans hf) |>.symm
      obtain rfl : fn = Tryd.f9 := (Option.some.inj (Tryd.func9.symm.trans hfn)).symm
      exact ⟨by kernel_rfl, fun j t ht => by
        rw [Tryd.params9] at ht
        have hm : t ∈ [22, 22, 22, 22, 4] := by simpa using Array.mem_of_getElem? ht
        have hall : ([22, 22, 22, 22, 4].all fun u => !Tryd.prog.wantsStandIn u) = true := by kernel_rfl
        exact (show Tryd.prog.wantsStandIn t = false by simpa using List.all_eq_true.1 hall t hm)⟩)
    (by kernel_rfl)
#print axioms proved
end Go.Proofs.YtkmgimkbcnmjmaaDoor.flagsHolds
