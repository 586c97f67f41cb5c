"""Placehues: a text changed place by place, each place brought on by itself."""
