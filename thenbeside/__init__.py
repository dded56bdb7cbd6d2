"""Plans that arrange tasks by two operators: one plan then another one, and one plan beside another one."""
