"""Spikehold: a simulator of networks of spiking neurons."""
