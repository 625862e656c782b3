"""Lateplans: how many times as long one plan can take as another one."""
